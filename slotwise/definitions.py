"""Which definitions are valid [63]."""

from slotwise.conditions import check_condition
from slotwise.domains import values_of, variables_of
from slotwise.errors import (
    DuplicateAttribute,
    DuplicateColumn,
    DuplicateComponent,
    DuplicateOption,
    DuplicatePort,
    DuplicateSlot,
    EmptyRange,
    InvalidCharge,
    InvalidRule,
    NotCondition,
    TooManyAssignments,
    TooManyStates,
    UnknownColumn,
    UnknownPort,
    UnknownVariable,
    WrongOperands,
)

MOST_STATES = 40
MOST_ASSIGNMENTS = 300


def check_definition(definition):
    """Raise the first of the errors that are due if the definition is not valid."""
    ports, components, wanted = definition
    _check_ports(ports)
    names = [name for name, _ in ports]
    earlier = []
    for component in components:
        if component[0] in earlier:
            raise DuplicateComponent(component[0])
        earlier.append(component[0])
        _check_component(definition, names, component)
    _check_port(names, wanted)
    count = sum([_assignments(variables_of(definition, name)) for name in earlier])
    if count > MOST_ASSIGNMENTS:
        raise TooManyAssignments(count)


def _check_ports(ports):
    """Check the port kinds and the number of their states."""
    earlier = []
    count = 0
    for name, attributes in ports:
        if name in earlier:
            raise DuplicatePort(name)
        earlier.append(name)
        _check_attributes(name, attributes)
        count += _assignments([(attribute, values_of(domain)) for attribute, domain in attributes])
    if count > MOST_STATES:
        raise TooManyStates(count)


def _check_attributes(owner, attributes):
    """Check the attributes of the port kind or component with the name `owner`."""
    earlier = []
    for name, domain in attributes:
        full_name = owner + "." + name
        if name in earlier:
            raise DuplicateAttribute(full_name)
        earlier.append(name)
        if domain[0] == "range" and domain[1] > domain[2]:
            raise EmptyRange(full_name)
        if domain[0] == "options" and len(set(domain[1])) < len(domain[1]):
            raise DuplicateOption(full_name)


def _check_port(names, name):
    """Check that a port kind has the name."""
    if name not in names:
        raise UnknownPort(name)


def _check_component(definition, ports, component):
    """Check a component whose name is new; `ports` are the names of the port kinds."""
    name, plug, attributes, slots, rules, tables, _, charges = component
    _check_port(ports, plug)
    _check_attributes(name, attributes)
    earlier = []
    for slot, port in slots:
        if slot in earlier:
            raise DuplicateSlot(name + "." + slot)
        earlier.append(slot)
        _check_port(ports, port)
    # From here on the names of all port kinds are known, so that the component has variables.
    kinds = _kinds(variables_of(definition, name))
    for number, rule in enumerate(rules):
        if not _is_condition(rule, kinds):
            raise InvalidRule(name, number)
    for number, table in enumerate(tables):
        _check_columns(name, number, table[0], dict(kinds))
    for number, charge in enumerate(charges):
        if not _is_condition(charge[0], kinds):
            raise InvalidCharge(name, number)


def _check_columns(component, number, columns, known):
    """Check the columns of the table with this number."""
    earlier = []
    for column in columns:
        if column not in known:
            raise UnknownColumn(component, number, column)
        if column in earlier:
            raise DuplicateColumn(component, number, column)
        earlier.append(column)


def _kinds(variables):
    """The pairs of the names and the kinds of the variables."""
    return tuple([(name, "option" if isinstance(values[0], str) else "number") for name, values in variables])


def _is_condition(expression, kinds):
    """Whether the expression is a condition for variables of these kinds."""
    try:
        check_condition(expression, kinds)
    except (UnknownVariable, WrongOperands, NotCondition):
        return False
    return True


def _assignments(variables):
    """In how many ways each of the variables can get a value."""
    count = 1
    for _, values in variables:
        count *= len(values)
    return count
