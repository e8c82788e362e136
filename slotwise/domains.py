"""Domains of attributes, port states, and the variables of components [60], [61]."""

from slotwise.errors import UnknownComponent


def port_states(definition):
    """All port states of the definition, in order."""
    states = []
    for name, attributes in definition[0]:
        domains = [values_of(domain) for _, domain in attributes]
        states.extend([(name, values) for values in combined(domains)])
    return tuple(states)


def variables_of(definition, component):
    """The variables of the component in order, pairs of the name and the tuple of the values."""
    attributes_of = dict(definition[0])
    for row in definition[1]:
        if row[0] == component:
            variables = _variables("", row[2])
            variables.extend(_variables("plug.", attributes_of[row[1]]))
            for slot, port in row[3]:
                variables.extend(_variables(slot + ".", attributes_of[port]))
            return tuple(variables)
    raise UnknownComponent(component)


def values_of(domain):
    """The values of an attribute with this domain, in order."""
    if domain[0] == "options":
        return domain[1]
    return tuple(range(domain[1], domain[2] + 1))


def combined(domains):
    """All tuples with a value of each domain, in lexicographic order by the indices of the values."""
    rows = [()]
    for values in domains:
        rows = [row + (value,) for row in rows for value in values]
    return rows


def _variables(prefix, attributes):
    """The attributes as variables, with what stands in front of their names."""
    return [(prefix + name, values_of(domain)) for name, domain in attributes]
