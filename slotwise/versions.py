"""Comparing two versions of a catalogue by names [342], [343]."""

from slotwise.catalogues import with_names
from slotwise.comparison import balance, first_changed, only_in, price_change
from slotwise.domains import combined, variables_of
from slotwise.errors import Incompatible


def aligned(first, second):
    """The aligned families of two compatible catalogues, and the pairs (component, assignment) of their variants."""
    _check_compatible(first, second)
    pairs = _common_order(first, second)
    return (_family_with(pairs, first, second), _family_with(pairs, second, first), tuple(pairs))


def compare(first, second):
    """The first product that only the first catalogue has, the first that only the second one has, and the change."""
    one, other, pairs = aligned(first, second)
    only_first = _by_names(pairs, only_in(one, other))
    only_second = _by_names(pairs, only_in(other, one))
    return (only_first, only_second, price_change(one, other))


def first_change(first, second):
    """The first common product that has another price in the second catalogue, None if there is none."""
    one, other, pairs = aligned(first, second)
    return _by_names(pairs, first_changed(one, other))


def balanced(first, second):
    """The balance of the catalogues, None if some common product has different prices."""
    one, other, _ = aligned(first, second)
    table = balance(one, other)
    return None if table is None else with_names(first.states, table)


def _check_compatible(first, second):
    """Raise Incompatible if the catalogues are not compatible."""
    ports, components, wanted = first.definition
    others = {component[0]: component for component in second.definition[1]}
    if ports != second.definition[0]:
        raise Incompatible(("ports",))
    if wanted != second.definition[2]:
        raise Incompatible(("product",))
    for component in components:
        other = others.get(component[0], component)
        # The plug, the attributes and the slots; all else may differ.
        if component[1:4] != other[1:4]:
            raise Incompatible(("component", component[0]))


def _common_order(first, second):
    """The pairs of the component and the assignment for all variants that one of the catalogues has, in order."""
    pairs = []
    done = []
    for catalogue in (first, second):
        for component in catalogue.definition[1]:
            name = component[0]
            if name not in done:
                done.append(name)
                domains = [values for _, values in variables_of(catalogue.definition, name)]
                pairs.extend([(name, values) for values in combined(domains)])
    return [pair for pair in pairs if _has(first, pair) or _has(second, pair)]


def _has(catalogue, pair):
    """Whether the catalogue has the variant."""
    return catalogue.number_of(pair[0], pair[1]) is not None


def _family_with(pairs, catalogue, other):
    """The family with a variant for each pair, where those that only the other catalogue has are missing."""
    count, roots, variants = catalogue.family
    rows = []
    for component, values in pairs:
        number = catalogue.number_of(component, values)
        if number is None:
            # The states are the same, so the other catalogue tells the plug and the slots.
            plug, slots, _ = other.family[2][other.number_of(component, values)]
            rows.append((plug, slots, None))
        else:
            rows.append(variants[number])
    return (count, roots, tuple(rows))


def _by_names(pairs, tree):
    """The product by names for a tree of an aligned family, None for None."""
    return None if tree is None else tuple([pairs[number] for number in tree])
