"""Choices for the parts of products, and their demands [360], [362]."""

from slotwise.domains import variables_of


def demand_of(catalogue, choice):
    """The demand of the choice."""
    path, name, value = choice
    if name == "component":
        allowed = [number for number, variant in enumerate(catalogue.variants) if variant[0] == value]
    else:
        columns = _columns(catalogue.definition, name)
        allowed = [
            number
            for number, (component, values, _) in enumerate(catalogue.variants)
            if component in columns and values[columns[component]] == value
        ]
    return (path, tuple(allowed))


def candidates_of(catalogue, name):
    """The candidates of the name, each once, in order."""
    definition = catalogue.definition
    if name == "component":
        return tuple([component[0] for component in definition[1]])
    found = []
    for component in definition[1]:
        for variable, values in variables_of(definition, component[0]):
            if variable == name:
                found.extend(values)
    # A dict keeps each value once, at its first occurrence.
    return tuple({value: True for value in found})


def _columns(definition, name):
    """For each component that has a variable of this name the index of the variable."""
    columns = {}
    for component in definition[1]:
        variables = [variable for variable, _ in variables_of(definition, component[0])]
        if name in variables:
            columns[component[0]] = variables.index(name)
    return columns
