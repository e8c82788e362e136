"""Expressions: their size, their variables and their kinds [20] to [22]."""

from slotwise.errors import NotCondition, UnknownVariable, WrongOperands

# The kinds of the expressions without operands, except for variables.
LEAF_KINDS = {"number": "number", "option": "option", "true": "condition", "false": "condition"}

# For each operator the kinds that its operands can have; all of them have the same one.
OPERAND_KINDS = {
    "minus": ("number",),
    "+": ("number",),
    "-": ("number",),
    "*": ("number",),
    "=": ("number", "option"),
    "!=": ("number", "option"),
    "<": ("number",),
    "<=": ("number",),
    ">": ("number",),
    ">=": ("number",),
    "not": ("condition",),
    "and": ("condition",),
    "or": ("condition",),
    "implies": ("condition",),
}

ARITHMETIC = ("minus", "+", "-", "*")

# How closely the operators bind their operands in texts; a greater number binds more closely.
BINDING = {
    "implies": 1,
    "or": 2,
    "and": 3,
    "not": 4,
    "=": 5,
    "!=": 5,
    "<": 5,
    "<=": 5,
    ">": 5,
    ">=": 5,
    "+": 6,
    "-": 6,
    "*": 7,
    "minus": 8,
}


def measure(expression):
    """The pair of the number of places and the depth of the expression."""
    measures = [measure(operand) for operand in _operands(expression)]
    places = 1 + sum([inner[0] for inner in measures])
    depth = 1 + max([inner[1] for inner in measures], default=0)
    return (places, depth)


def variables_in(expression):
    """The names of the variables in the expression, each once, in the order of their first occurrences."""
    names = []
    waiting = [expression]
    while waiting:
        part = waiting.pop()
        if part[0] == "variable" and part[1] not in names:
            names.append(part[1])
        waiting.extend(_operands(part)[::-1])
    return tuple(names)


def kind_of(expression, kinds):
    """The kind of the expression; raises the error for its first fault."""
    return _kind(expression, dict(kinds))


def check_condition(expression, kinds):
    """Raise the error for the first fault of the expression, or NotCondition if it is not a condition."""
    if kind_of(expression, kinds) != "condition":
        raise NotCondition("the expression is not a condition")


def _operands(expression):
    """The operands of the expression."""
    return expression[1:] if expression[0] in OPERAND_KINDS else ()


def _kind(expression, known):
    """The kind of the expression, by the dict of the kinds of the known variables."""
    head = expression[0]
    if head in LEAF_KINDS:
        return LEAF_KINDS[head]
    if head == "variable":
        if expression[1] not in known:
            raise UnknownVariable(expression[1])
        return known[expression[1]]
    kinds = [_kind(operand, known) for operand in _operands(expression)]
    if kinds[0] not in OPERAND_KINDS[head] or kinds[0] != kinds[-1]:
        raise WrongOperands(head)
    return "number" if head in ARITHMETIC else "condition"
