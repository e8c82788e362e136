"""Transfer prices: costs and margins, floors and ceilings [160] to [162]."""

from slotwise.least import least_weights


def cost_of(family, table, number):
    """The cost of the variant with this number, None if it does not exist."""
    _, slots, price = family[2][number]
    inside = [table[state] for state in slots]
    if price is None or None in inside:
        return None
    return price + sum(inside)


def margins_of(family, table):
    """The margin of each variant, None if it does not exist."""
    margins = []
    for number, variant in enumerate(family[2]):
        cost = cost_of(family, table, number)
        own = table[variant[0]]
        margins.append(None if cost is None or own is None else cost - own)
    return tuple(margins)


def is_floor(family, table):
    """Whether the table is a floor: no variant makes a loss by it."""
    return all([margin is not None and margin >= 0 for margin in _margins_of_costs(family, table)])


def is_ceiling(family, table):
    """Whether the table is a ceiling: no variant makes a profit by it."""
    return all([margin is not None and margin <= 0 for margin in _margins_of_costs(family, table)])


def least_prices(family):
    """The table of least prices."""
    return tuple([None if weight is None else weight[0] for weight in least_weights(family)])


def larger_of(first, second):
    """The table with the larger one of the two prices for every state for which both tables have one."""
    return tuple([None if one is None or other is None else max(one, other) for one, other in zip(first, second)])


def smaller_of(first, second):
    """The table with the smaller one of the two prices for every state for which both tables have one."""
    return tuple([None if one is None or other is None else min(one, other) for one, other in zip(first, second)])


def _margins_of_costs(family, table):
    """The margins of the variants whose costs exist, None for each one whose plug has no price."""
    margins = margins_of(family, table)
    return [margin for number, margin in enumerate(margins) if cost_of(family, table, number) is not None]
