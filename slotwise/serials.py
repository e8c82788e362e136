"""Serial numbers of products [241]."""

from slotwise.counting import size_counts, ways_to_fill
from slotwise.families import rows_by_state
from slotwise.useful import fillable_variants


def serial_of(family, tree):
    """The serial number of the product."""
    counts = size_counts(family, family[1], len(tree))
    rows = rows_by_state(family, fillable_variants(family))
    known = {}
    serial = sum([sum(counts[root][:len(tree)]) for root in family[1]])
    row, behind = _beginning(family, rows)
    for at, number in enumerate(tree):
        for other, slots, _ in row:
            if other < number:
                serial += ways_to_fill(counts, known, slots + behind, len(tree) - at - 1)
        row, behind = _continued(rows, family[2][number][1] + behind)
    return serial


def product_at(family, serial, most):
    """The product with this serial number, None if no product with at most `most` parts has it."""
    counts = size_counts(family, family[1], most)
    left = serial
    for parts in range(1, most + 1):
        many = sum([counts[root][parts] for root in family[1]])
        if left < many:
            return _product_of_size(family, counts, left, parts)
        left -= many
    return None


def _product_of_size(family, counts, left, parts):
    """The product of this size that so many products of this size come before."""
    rows = rows_by_state(family, fillable_variants(family))
    known = {}
    tree = []
    row, behind = _beginning(family, rows)
    for further in reversed(range(parts)):
        for number, slots, _ in row:
            states = slots + behind
            ways = ways_to_fill(counts, known, states, further)
            if left < ways:
                break
            left -= ways
        tree.append(number)
        row, behind = _continued(rows, states)
    return tuple(tree)


def _beginning(family, rows):
    """The variants that can be the root of a product, ascending, and the states that wait behind them."""
    return sorted([variant for root in family[1] for variant in rows[root]]), ()


def _continued(rows, states):
    """The variants that can stand for the first one of the states, and the states that wait behind it."""
    return (rows[states[0]], states[1:]) if states else ([], ())
