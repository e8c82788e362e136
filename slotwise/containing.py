"""The first products that contain marked variants, or that contain none of them [141]."""

from slotwise.families import MOST_PARTS, check_parts, rows_by_state, without
from slotwise.least import cheapest, least_weights, weight_of
from slotwise.useful import useful_variants


def cheapest_with(family, marked):
    """The first product that contains at least one marked variant, None if there is none."""
    return cheapest_with_all(family, (marked,))


def cheapest_with_all(family, groups):
    """The first product that covers the groups, None if there is none."""
    everything = (1 << len(groups)) - 1
    return first_covering(family, groups, [(root, everything) for root in family[1]])


def cheapest_without(family, marked):
    """The first product that contains no marked variant, None if there is none."""
    return cheapest(without(family, marked))


def first_covering(family, groups, goals):
    """The first one of the products that reach one of the goals, None if there is none.

    A goal is a pair of a root and a duty; the trees at the root that cover the groups of the duty
    reach it. A duty is a number with the bit `1 << k` for each group k that is one of its groups.
    """
    duties, originals = _divided(family, groups)
    weights = least_weights(duties)
    states = [(root << len(groups)) + duty for root, duty in goals]
    filled = [state for state in states if weights[state] is not None]
    if not filled:
        return None
    least = min([weights[state] for state in filled])
    check_parts(least[1])
    trees = _first_trees(duties, originals, weights)
    return min([trees[state] for state in filled if weights[state] == least])


def _divided(family, groups):
    """A family with a state for each pair of a state and a duty, and the variants whose copies its variants are.

    Only useful variants are copied. A copy divides what it does not cover itself of the duty among its
    slots. So the trees at a state of this family are, by the original variants, the trees that cover its duty.
    """
    covered = _covered_groups(family, groups)
    rows = []
    originals = []
    for number in useful_variants(family):
        plug, slots, price = family[2][number]
        for duty in range(1 << len(groups)):
            for shares in _divisions(duty - (duty & covered[number]), len(slots)):
                inside = [(state << len(groups)) + share for state, share in zip(slots, shares)]
                rows.append(((plug << len(groups)) + duty, tuple(inside), price))
                originals.append(number)
    return (family[0] << len(groups), (), tuple(rows)), originals


def _covered_groups(family, groups):
    """For each variant the duty of all groups to which it belongs."""
    covered = [0] * len(family[2])
    for at, group in enumerate(groups):
        for number in group:
            covered[number] = covered[number] | (1 << at)
    return covered


def _divisions(duty, many):
    """All ways to divide the groups of the duty among so many slots."""
    if many == 0:
        return [()] if duty == 0 else []
    return [
        (share,) + others
        for share in range(duty + 1)
        if share & duty == share
        for others in _divisions(duty - share, many - 1)
    ]


def _first_trees(duties, originals, weights):
    """The first tree, by the original variants, at each state at which it has not too many parts.

    Several copies of a variant can be the root of trees with the least weight, and only the
    original variants tell which of these trees is the first one. So all of them are compared.
    """
    rows = rows_by_state(duties, list(range(len(originals))))
    settled = [(weight, state) for state, weight in enumerate(weights) if weight is not None]
    trees = {}
    for weight, state in sorted(settled):
        if weight[1] <= MOST_PARTS:
            trees[state] = min(
                [
                    _planted(originals[number], slots, trees)
                    for number, slots, price in rows[state]
                    if weight_of(slots, price, weights) == weight
                ]
            )
    return trees


def _planted(root, slots, trees):
    """The tree with this root and with the trees of the states in its slots."""
    parts = [root]
    for state in slots:
        parts.extend(trees[state])
    return tuple(parts)
