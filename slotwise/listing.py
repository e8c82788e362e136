"""Texts of definitions: reading and printing them [80] to [84]."""

from slotwise.errors import (
    ConditionTooLarge,
    DefinitionTooLarge,
    InvalidCondition,
    MisplacedLine,
    MissingLine,
    TextError,
    UnknownLine,
)
from slotwise.printer import show_condition
from slotwise.reader import read_condition
from slotwise.tokens import RESERVED, begin_of, first_tokens

MOST_DIGITS = 7
SYMBOLS = (":", ",", ";", "-")
COLON = ("symbol", ":")
COMMA = ("symbol", ",")
SEMICOLON = ("symbol", ";")
MINUS = ("symbol", "-")
TO = ("word", "to")

# For each form of a line the forms that can stand behind it; "" stands for the beginning of the text.
FOLLOWERS = {
    "": ("product",),
    "product": ("port",),
    "port": ("port attribute", "port", "component"),
    "port attribute": ("port attribute", "port", "component"),
    "component": ("plug",),
    "plug": ("attribute", "slot", "rule", "table", "price"),
    "attribute": ("attribute", "slot", "rule", "table", "price"),
    "slot": ("slot", "rule", "table", "price"),
    "rule": ("rule", "table", "price"),
    "table": ("table", "price"),
    "price": ("charge", "component"),
    "charge": ("charge", "component"),
}
LAST_FORMS = ("price", "charge")

# A section is a line of one of these forms together with the lines that belong to it.
OPENING_FORMS = ("product", "port", "component")
MOST_SECTIONS = {"product": 1, "port": 6, "component": 12}
MOST_IN_SECTION = {
    "port attribute": 3,
    "plug": 1,
    "attribute": 3,
    "slot": 3,
    "rule": 4,
    "table": 2,
    "price": 1,
    "charge": 4,
}
MOST_OPTIONS = 4
MOST_COLUMNS = 3
MOST_ROWS = 12
MOST_INTEGERS = 6
LARGEST_BOUND = 100000
LARGEST_VALUE = 1000000
LARGEST_PRICE = 1000000


def read_definition(text):
    """The definition that the text denotes."""
    sections = []
    last = ""
    lines = text.split("\n")
    for number, line in enumerate(lines):
        if begin_of(line, 0) < len(line):
            form, content = _read_line(line, last, number)
            if form in OPENING_FORMS:
                sections.append({other: [] for other in FOLLOWERS})
            sections[-1][form].append(content)
            if _are_too_many(sections, form) or _is_too_large(form, content):
                raise DefinitionTooLarge(number)
            last = form
    if last not in LAST_FORMS:
        raise MissingLine(len(lines))
    ports = [_port_of(section) for section in sections if section["port"]]
    components = [_component_of(section) for section in sections if section["component"]]
    return (tuple(ports), tuple(components), sections[0]["product"][0])


def show_definition(definition):
    """The printed text of the definition."""
    ports, components, wanted = definition
    lines = ["product " + wanted]
    for name, attributes in ports:
        lines.append("port " + name)
        lines.extend([_shown_attribute(attribute) for attribute in attributes])
    for component in components:
        lines.extend(_component_lines(component))
    return "\n".join(lines)


def _read_line(line, last, number):
    """The form and the content of the line with this number, where `last` is the form of the line before."""
    found = _form_of(line)
    if found is None:
        raise UnknownLine(number)
    form, content = found
    if form == "attribute" and "port attribute" in FOLLOWERS[last]:
        form = "port attribute"
    if form not in FOLLOWERS[last]:
        raise MisplacedLine(number)
    if form == "rule":
        return form, _condition(content, number)
    if form == "charge":
        return form, (_condition(content[1], number), content[0])
    return form, content


def _condition(text, number):
    """The condition of the line with this number."""
    try:
        return read_condition(text)
    except (TextError, ConditionTooLarge):
        raise InvalidCondition(number) from None


def _form_of(line):
    """The form and the content of the line, with conditions as texts; None if it has none of the forms."""
    try:
        first, behind = _tokens(line, 1)
        if line[begin_of(line, behind):][:1] != ":":
            if first == [("word", "rule")]:
                return ("rule", line[behind:])
            if first == [("word", "charge")]:
                return _charge_in(line)
        tokens, _ = _tokens(line, len(line))
    except TextError:
        return None
    if tokens[1:2] == [COLON]:
        return _attribute_in(tokens[0], tokens[2:])
    return _declaration_in(tokens[0], tokens[1:])


def _tokens(line, many):
    """The first tokens of the line without their places, at most so many, and the index behind them."""
    tokens, behind = first_tokens(line, many, MOST_DIGITS, SYMBOLS)
    return [(kind, value) for kind, value, _ in tokens], behind


def _charge_in(line):
    """What a line tells whose first word is `charge`: the amount and the text of the condition."""
    tokens, behind = _tokens(line, 3)
    if len(tokens) < 3 or tokens[1][0] != "number" or tokens[2] != ("word", "when"):
        return None
    return ("charge", (tokens[1][1], line[behind:]))


def _attribute_in(head, rest):
    """What a line tells that has these tokens before and behind a colon."""
    if not _is_name(head):
        return None
    options = [_value_of(tokens) for tokens in _separated(rest, COMMA)]
    if all([isinstance(option, str) for option in options]):
        return ("attribute", (head[1], ("options", tuple(options))))
    bounds = [_value_of(tokens) for tokens in _separated(rest, TO)]
    if len(bounds) == 2 and all([isinstance(bound, int) for bound in bounds]):
        return ("attribute", (head[1], ("range", bounds[0], bounds[1])))
    return None


def _declaration_in(head, rest):
    """What a line tells that begins with this token, if that is one of the words that tell the form."""
    if head == ("word", "table"):
        return _table_in(rest)
    if head == ("word", "price"):
        return ("price", rest[0][1]) if len(rest) == 1 and rest[0][0] == "number" else None
    if head == ("word", "slot"):
        is_slot = len(rest) == 3 and _is_name(rest[0]) and rest[1] == COLON and _is_name(rest[2])
        return ("slot", (rest[0][1], rest[2][1])) if is_slot else None
    if head[0] == "word" and head[1] in ("product", "port", "component", "plug"):
        return (head[1], rest[0][1]) if len(rest) == 1 and _is_name(rest[0]) else None
    return None


def _table_in(rest):
    """What a line tells that has these tokens behind the word `table`."""
    parts = _separated(rest, COLON)
    columns = _separated(parts[0], COMMA)
    if len(parts) != 2 or not all([len(column) == 1 and _is_variable(column[0]) for column in columns]):
        return None
    rows = []
    for row in _separated(parts[1], SEMICOLON):
        values = [_value_of(tokens) for tokens in _separated(row, COMMA)]
        if None in values or len(values) != len(columns):
            return None
        rows.append(tuple(values))
    return ("table", (tuple([column[0][1] for column in columns]), tuple(rows)))


def _separated(tokens, mark):
    """The tokens between those that are the mark: one list more than there are marks."""
    parts = [[]]
    for token in tokens:
        if token == mark:
            parts.append([])
        else:
            parts[-1].append(token)
    return parts


def _value_of(tokens):
    """The integer or the option that the tokens are, None if they are neither."""
    if len(tokens) == 1 and tokens[0][0] in ("number", "option"):
        return tokens[0][1]
    if len(tokens) == 2 and tokens[0] == MINUS and tokens[1][0] == "number":
        return -tokens[1][1]
    return None


def _is_name(token):
    """Whether the token is a name [5]."""
    return _is_variable(token) and "." not in token[1] and token[1] not in ("plug", "component")


def _is_variable(token):
    """Whether the token is the name of a variable [20]."""
    return token[0] == "word" and token[1] not in RESERVED


def _are_too_many(sections, form):
    """Whether the last line of this form is one too many."""
    if form in OPENING_FORMS:
        return len([section for section in sections if section[form]]) > MOST_SECTIONS[form]
    return len(sections[-1][form]) > MOST_IN_SECTION[form]


def _is_too_large(form, content):
    """Whether a line of this form has a content that goes beyond its bounds."""
    if form == "attribute" or form == "port attribute":
        return _is_large_domain(content[1])
    if form == "table":
        columns, rows = content
        return len(columns) > MOST_COLUMNS or len(rows) > MOST_ROWS or any([_is_large_row(row) for row in rows])
    if form == "price":
        return content > LARGEST_PRICE
    return form == "charge" and content[1] > LARGEST_PRICE


def _is_large_domain(domain):
    """Whether the domain has too many values, or a bound beyond the bounds."""
    if domain[0] == "options":
        return len(domain[1]) > MOST_OPTIONS
    low, high = domain[1:]
    return max(abs(low), abs(high)) > LARGEST_BOUND or high - low + 1 > MOST_INTEGERS


def _is_large_row(row):
    """Whether the row of a table has an integer beyond the bounds."""
    return any([isinstance(value, int) and abs(value) > LARGEST_VALUE for value in row])


def _port_of(section):
    """The port kind of the section."""
    return (section["port"][0], tuple(section["port attribute"]))


def _component_of(section):
    """The component of the section."""
    plug = section["plug"][0]
    price = section["price"][0]
    lists = [tuple(section[form]) for form in ("attribute", "slot", "rule", "table")]
    return (section["component"][0], plug) + tuple(lists) + (price, tuple(section["charge"]))


def _component_lines(component):
    """The lines of the component."""
    name, plug, attributes, slots, rules, tables, price, charges = component
    lines = ["component " + name, "  plug " + plug]
    lines.extend([_shown_attribute(attribute) for attribute in attributes])
    lines.extend([f"  slot {slot}: {port}" for slot, port in slots])
    lines.extend(["  rule " + show_condition(rule) for rule in rules])
    lines.extend([_shown_table(table) for table in tables])
    lines.append(f"  price {price}")
    lines.extend([f"  charge {amount} when {show_condition(condition)}" for condition, amount in charges])
    return lines


def _shown_attribute(attribute):
    """The line of the attribute."""
    name, domain = attribute
    if domain[0] == "options":
        return f"  {name}: " + _shown_values(domain[1])
    return f"  {name}: {domain[1]} to {domain[2]}"


def _shown_table(table):
    """The line of the table."""
    columns, rows = table
    return "  table " + ", ".join(columns) + ": " + "; ".join([_shown_values(row) for row in rows])


def _shown_values(values):
    """The integers and options, separated by commas."""
    return ", ".join(['"' + value + '"' if isinstance(value, str) else str(value) for value in values])
