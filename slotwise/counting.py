"""Numbers of trees and of products [240]."""

from slotwise.errors import TooManyTrees
from slotwise.families import groups_of, is_cyclic, links_of, reach, rows_by_state
from slotwise.useful import fillable_variants

MOST_TREES = 10 ** 30


def counts_by_size(family, state, most):
    """The numbers of trees at the state that have exactly 1, 2, .., `most` parts."""
    return tuple(size_counts(family, (state,), most)[state][1:])


def tree_count(family, state):
    """The number of trees at the state, None if there are infinitely many."""
    return _total(family, (state,))


def product_count(family):
    """The number of products, None if there are infinitely many."""
    return _total(family, family[1])


def size_counts(family, starts, most):
    """For each state that trees at the starts need, and each number of parts up to `most`, the number of trees."""
    numbers = fillable_variants(family)
    needed = reach(links_of(family, numbers), starts)
    shapes = [_shapes(row) for row in rows_by_state(family, numbers)]
    counts = [[0] * (most + 1) for _ in needed]
    known = {}
    for parts in range(1, most + 1):
        for state, kinds in enumerate(shapes):
            if needed[state]:
                counts[state][parts] = sum(
                    [many * ways_to_fill(counts, known, slots, parts - 1) for slots, many in kinds]
                )
    return counts


def ways_to_fill(counts, known, states, parts):
    """In how many ways trees at these states, in order, have this number of parts together.

    `known` keeps the numbers that have been found by the same counts.
    """
    if not states:
        return 1 if parts == 0 else 0
    if len(states) == 1:
        return counts[states[0]][parts]
    if (states, parts) not in known:
        known[(states, parts)] = sum(
            [
                counts[states[0]][first] * ways_to_fill(counts, known, states[1:], parts - first)
                for first in range(1, parts)
            ]
        )
    return known[(states, parts)]


def _shapes(row):
    """The pairs of different slots and the number of variants in the row that have them."""
    shapes = {}
    for variant in row:
        shapes[variant[1]] = shapes.get(variant[1], 0) + 1
    return list(shapes.items())


def _total(family, states):
    """The number of trees at all these states together, None if there are infinitely many."""
    numbers = fillable_variants(family)
    links = links_of(family, numbers)
    needed = reach(links, states)
    rows = rows_by_state(family, numbers)
    counts = [0] * family[0]
    for group in groups_of(links):
        if needed[group[0]]:
            if is_cyclic(links, group):
                return None
            counts[group[0]] = _trees_at(rows[group[0]], counts)
    total = sum([counts[state] for state in states])
    if total > MOST_TREES:
        raise TooManyTrees("there are too many trees")
    return total


def _trees_at(row, counts):
    """The number of trees with these variants as roots, or a number beyond the bound if there are more."""
    total = 0
    for variant in row:
        ways = 1
        for state in variant[1]:
            # Exact numbers could become too large to be computed; every state here has a tree, so none shrinks again.
            ways = min(ways * counts[state], MOST_TREES + 1)
        total = min(total + ways, MOST_TREES + 1)
    return total
