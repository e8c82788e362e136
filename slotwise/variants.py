"""The variants of components, and the family of a definition [62], [64]."""

from slotwise.domains import combined, port_states, variables_of
from slotwise.evaluation import evaluated


def variants_of(definition, component):
    """The variants of the component in order, pairs of the assignment and the price."""
    variables = variables_of(definition, component)
    rules, tables, price, charges = _row_of(definition, component)[4:]
    names = [name for name, _ in variables]
    found = []
    for values in combined([domain for _, domain in variables]):
        known = dict(zip(names, values))
        if all([evaluated(rule, known) for rule in rules]) and all([_satisfies(known, table) for table in tables]):
            charged = [amount for condition, amount in charges if evaluated(condition, known)]
            found.append((values, price + sum(charged)))
    return tuple(found)


def family_of(definition):
    """The family of the definition."""
    states = port_states(definition)
    numbers = {state: number for number, state in enumerate(states)}
    roots = [number for number, state in enumerate(states) if state[0] == definition[2]]
    variants = []
    for component in definition[1]:
        for values, price in variants_of(definition, component[0]):
            plug, *slots = _states_in(definition, component, values)
            variants.append((numbers[plug], tuple([numbers[state] for state in slots]), price))
    return (len(states), tuple(roots), tuple(variants))


def slot_names_of(definition):
    """For each variant of the definition the names of the slots of its component."""
    names = []
    for component in definition[1]:
        slots = tuple([name for name, _ in component[3]])
        names.extend([slots] * len(variants_of(definition, component[0])))
    return tuple(names)


def _row_of(definition, component):
    """The component with this name, which exists."""
    return [row for row in definition[1] if row[0] == component][0]


def _satisfies(known, table):
    """Whether the variables have the values of at least one row of the table."""
    columns, rows = table
    given = tuple([known[column] for column in columns])
    return given in rows


def _states_in(definition, component, values):
    """The port states of the plug and of the slots for an assignment of the component."""
    attributes_of = dict(definition[0])
    # The own attributes stand first, those of the plug and of the slots follow in this order.
    start = len(component[2])
    states = []
    for port in [component[1]] + [port for _, port in component[3]]:
        behind = start + len(attributes_of[port])
        states.append((port, values[start:behind]))
        start = behind
    return states
