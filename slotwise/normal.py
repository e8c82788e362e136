"""The normal form of a family, and shifting, which does not change it [180] to [182]."""

from slotwise.families import repriced
from slotwise.transfer import least_prices, margins_of
from slotwise.useful import useful_variants


def normal_form(family):
    """The least prices at the roots, and the margins of the useful variants by the table of least prices."""
    table = least_prices(family)
    useful = set(useful_variants(family))
    bases = [(root, table[root]) for root in family[1] if table[root] is not None]
    margins = [margin if number in useful else None for number, margin in enumerate(margins_of(family, table))]
    return (tuple(bases), tuple(margins))


def shifted(family, numbers):
    """The family shifted by the numbers, one for each state."""
    prices = [
        None if price is None else price + numbers[plug] - sum([numbers[state] for state in slots])
        for plug, slots, price in family[2]
    ]
    return repriced(family, prices)
