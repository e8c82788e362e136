"""Trees of a given size, and the first products in order [260]."""

from slotwise.counting import size_counts, ways_to_fill
from slotwise.families import links_of, reach, rows_by_state
from slotwise.useful import fillable_variants


def trees_of_size(family, state, parts):
    """All trees at the state with exactly this number of parts, ascending as tuples."""
    counts = size_counts(family, (state,), parts)
    rows = [row[::-1] for row in rows_by_state(family, fillable_variants(family))]
    known = {}
    # What is begun last is completed first, so the later variants are put in before the earlier ones.
    begun = [((), (state,))] if counts[state][parts] > 0 else []
    while begun:
        tree, waiting = begun.pop()
        if not waiting:
            yield tree
        else:
            left = parts - len(tree) - 1
            for number, slots, _ in rows[waiting[0]]:
                states = slots + waiting[1:]
                if ways_to_fill(counts, known, states, left) > 0:
                    begun.append((tree + (number,), states))


def least_by_size(family, state, most):
    """The least prices of the trees at the state with 1, 2, .., `most` parts, None where there is no tree."""
    ranked = _ranked_trees(family, (state,), 1, most)[state]
    return tuple([trees[0][0] if trees else None for trees in ranked[1:]])


def first_products(family, *, many=10, most=8):
    """The first products with at most `most` parts, in the order of products."""
    ranked = _ranked_trees(family, family[1], many, most)
    found = [
        (price, parts, tree)
        for root in family[1]
        for parts in range(1, most + 1)
        for price, tree in ranked[root][parts]
    ]
    return tuple([row[2] for row in sorted(found)[:many]])


def _ranked_trees(family, starts, many, most):
    """For each state that trees at the starts need, and each number of parts, the first `many` trees.

    They are pairs of the price and the tree, in order.
    """
    numbers = fillable_variants(family)
    needed = reach(links_of(family, numbers), starts)
    rows = rows_by_state(family, numbers)
    ranked = [[[] for _ in range(most + 1)] for _ in rows]
    known = {}
    for parts in range(1, most + 1):
        for state, row in enumerate(rows):
            if needed[state]:
                ranked[state][parts] = _first_trees(ranked, known, row, many, parts)
    return ranked


def _first_trees(ranked, known, row, many, parts):
    """The first `many` trees with this number of parts that have one of these variants as root."""
    found = []
    for number, slots, price in row:
        ways = _first_ways(ranked, known, slots, many, parts - 1)
        found.extend([(price + more, (number,) + rest) for more, rest in ways])
    return sorted(found)[:many]


def _first_ways(ranked, known, slots, many, parts):
    """The first `many` ways to fill the slots with this number of parts, pairs of the price and the parts."""
    if not slots:
        return [(0, ())] if parts == 0 else []
    if len(slots) == 1:
        return ranked[slots[0]][parts]
    if (slots, parts) not in known:
        found = []
        for first in range(1, parts):
            others = _first_ways(ranked, known, slots[1:], many, parts - first)
            found.extend(_joined(ranked[slots[0]][first], others, many))
        known[(slots, parts)] = sorted(found)[:many]
    return known[(slots, parts)]


def _joined(trees, others, many):
    """Those combinations of a tree and a way to fill the other slots that can be among the first `many`.

    A combination comes behind all that have no later tree and no later way than it has.
    """
    return [
        (price + more, tree + rest)
        for at, (price, tree) in enumerate(trees)
        for more, rest in others[:many // (at + 1)]
    ]
