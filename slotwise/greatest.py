"""Greatest prices, dearest trees and the range of the prices of products [200] to [202]."""

from slotwise.families import groups_of, links_of, repriced, rows_by_state
from slotwise.least import first_tree, least_weights
from slotwise.useful import fillable_variants, useful_variants

UNBOUNDED = "unbounded"


def greatest_round(family, prices):
    """What the states get in one round, by what they had before it."""
    found = [None] * family[0]
    for plug, slots, price in family[2]:
        if price is not None:
            found[plug] = _greater(found[plug], _cost(slots, price, prices))
    return tuple(found)


def greatest_prices(family):
    """For each state None if it is not filled, "unbounded", or the greatest price of the trees there."""
    numbers = fillable_variants(family)
    rows = rows_by_state(family, numbers)
    prices = [None] * family[0]
    for group in groups_of(links_of(family, numbers)):
        _settle(group, rows, prices)
    return tuple(prices)


def dearest_tree(family, state):
    """The dearest tree at the state, None if the state is not filled or the prices there are unbounded."""
    prices = greatest_prices(family)
    if prices[state] is None or prices[state] == UNBOUNDED:
        return None
    # Exactly the trees of variants that cost the greatest price have this price. Without
    # prices, the first one of them is the one that comes first among equally dear trees.
    tight = [
        0 if price is not None and _cost(slots, price, prices) == prices[plug] else None
        for plug, slots, price in family[2]
    ]
    return first_tree(repriced(family, tight), state)


def price_range(family):
    """The pair of the least and the greatest price of a product, None if there is no product."""
    greatest = greatest_product_price(family)
    if greatest is None:
        return None
    weights = least_weights(family)
    least = min([weights[root][0] for root in family[1] if weights[root] is not None])
    return (least, None if greatest == UNBOUNDED else greatest)


def greatest_product_price(family):
    """The greatest price of the products, "unbounded", or None if there is no product; prices may be negative."""
    prices = greatest_prices(family)
    greatest = None
    for root in family[1]:
        greatest = _greater(greatest, prices[root])
    return greatest


def price_ceiling(family):
    """The table of the greatest prices of the states that parts of products have, None if products have none."""
    prices = greatest_prices(family)
    if UNBOUNDED in [prices[root] for root in family[1]]:
        return None
    table = [None] * family[0]
    for number in useful_variants(family):
        plug = family[2][number][0]
        table[plug] = prices[plug]
    return tuple(table)


def _settle(group, rows, prices):
    """Find the greatest prices of a group of states by the prices of all states that it needs besides.

    A tree that is higher than the group has states contains a state inside itself. So if a price
    still rises then, what lies between can be repeated, and each state of the group needs the others.
    """
    for _ in range(len(group) + 1):
        if not _raised(group, rows, prices):
            return
    for state in group:
        prices[state] = UNBOUNDED


def _raised(group, rows, prices):
    """Raise the prices of the states in the group once, and tell whether one has risen."""
    risen = False
    for state in group:
        for _, slots, price in rows[state]:
            dearer = _greater(prices[state], _cost(slots, price, prices))
            if dearer != prices[state]:
                prices[state] = dearer
                risen = True
    return risen


def _cost(slots, price, prices):
    """The cost of a variant that is not missing, None if it does not exist."""
    inside = [prices[state] for state in slots]
    if None in inside:
        return None
    if UNBOUNDED in inside:
        return UNBOUNDED
    return price + sum(inside)


def _greater(first, second):
    """The greater one of two prices, where None is less than every integer and "unbounded" greater."""
    if first is None or second == UNBOUNDED:
        return second
    if second is None or first == UNBOUNDED:
        return first
    return max(first, second)
