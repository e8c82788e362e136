"""Comparing two families that differ at most in the prices of their variants [320] to [322]."""

from slotwise.containing import cheapest_with, first_covering
from slotwise.families import repriced
from slotwise.greatest import UNBOUNDED, greatest_product_price, price_ceiling
from slotwise.least import settlement
from slotwise.transfer import cost_of, margins_of


def change_family(first, second):
    """The family in which the common variants have their changes as prices."""
    prices = [
        None if one[2] is None or other[2] is None else other[2] - one[2]
        for one, other in zip(first[2], second[2])
    ]
    return repriced(first, prices)


def only_in(first, second):
    """The first product of `first` that is no product of `second`, None if there is none."""
    missing = [number for number, variant in enumerate(second[2]) if variant[2] is None]
    return cheapest_with(first, tuple(missing))


def price_change(first, second):
    """The pair of the least and the greatest change of a common product, None if there is no common product."""
    changes = change_family(first, second)
    greatest = greatest_product_price(changes)
    if greatest is None:
        return None
    fall = greatest_product_price(change_family(second, first))
    return (None if fall == UNBOUNDED else -fall, None if greatest == UNBOUNDED else greatest)


def balance(first, second):
    """The balance of the families, None if some common product has a change other than 0."""
    if price_change(first, second) not in (None, (0, 0)):
        return None
    # All common trees at a state that a product has have the same change, so it is also the greatest one.
    return price_ceiling(change_family(first, second))


def first_changed(first, second):
    """The first common product, by the order of `first`, whose change is not 0, None if there is none.

    With the changes of the first trees as transfer prices, the change of a tree is the price of its
    state and all margins of its parts together, and first trees have only margins of 0. So if the
    price of a root is not 0, its first tree is changed. If it is 0, changed products have a part with
    another margin; and the first product with such a part has one alone, since a first tree in
    place of what contains a second one would come before it.
    """
    changes = change_family(first, second)
    prices = [None if change[2] is None else variant[2] for variant, change in zip(first[2], changes[2])]
    common = repriced(first, prices)
    moves = [None] * first[0]
    for state, number in settlement(common):
        moves[state] = cost_of(changes, moves, number)
    odd = [number for number, margin in enumerate(margins_of(changes, moves)) if margin is not None and margin != 0]
    goals = [(root, 1 if moves[root] == 0 else 0) for root in first[1]]
    return first_covering(common, (tuple(odd),), goals)
