"""Least weights, first trees and the cheapest product of families without negative prices [120] to [123]."""

from heapq import heappop, heappush

from slotwise.families import check_parts, users_of


def least_round(family, weights):
    """The weights of the states after one round, by the weights before it."""
    found = [None] * family[0]
    for plug, slots, price in family[2]:
        weight = weight_of(slots, price, weights)
        if weight is not None and (found[plug] is None or weight < found[plug]):
            found[plug] = weight
    return tuple(found)


def least_weights(family):
    """The least weights of the states, None for a state without a tree.

    A variant weighs more than what is in its slots. So the least weight that has been
    found for a state without one is final, and no rounds are needed.
    """
    variants = family[2]
    weights = [None] * family[0]
    users = users_of(family)
    empty_slots = [len(variant[1]) for variant in variants]
    queue = []
    for plug, slots, price in variants:
        if price is not None and not slots:
            heappush(queue, (price, 1, plug))
    while queue:
        price, parts, state = heappop(queue)
        if weights[state] is None:
            weights[state] = (price, parts)
            for number in users[state]:
                empty_slots[number] -= 1
                if empty_slots[number] == 0:
                    plug, slots, own = variants[number]
                    heappush(queue, weight_of(slots, own, weights) + (plug,))
    return tuple(weights)


def settlement(family):
    """The settlement of the family: for each state with a tree the root of its first tree."""
    weights = least_weights(family)
    chosen = first_variants(family, weights)
    order = sorted([(weight, state) for state, weight in enumerate(weights) if weight is not None])
    return tuple([(state, chosen[state]) for _, state in order])


def first_tree(family, state):
    """The first tree at the state, None if there is no tree."""
    weights = least_weights(family)
    if weights[state] is None:
        return None
    check_parts(weights[state][1])
    return grown(family, first_variants(family, weights), state)


def cheapest(family):
    """The cheapest product, None if there is no product."""
    weights = least_weights(family)
    filled = [root for root in family[1] if weights[root] is not None]
    if not filled:
        return None
    least = min([weights[root] for root in filled])
    check_parts(least[1])
    chosen = first_variants(family, weights)
    return min([grown(family, chosen, root) for root in filled if weights[root] == least])


def weight_of(slots, price, weights):
    """The weight of a variant with these slots and this price, None if it does not exist."""
    if price is None:
        return None
    inside = [weights[state] for state in slots]
    if None in inside:
        return None
    return (price + sum([weight[0] for weight in inside]), 1 + sum([weight[1] for weight in inside]))


def first_variants(family, weights):
    """For each state the root of its first tree, by the least weights; None for a state without a tree."""
    chosen = [None] * family[0]
    for number, (plug, slots, price) in enumerate(family[2]):
        if weights[plug] is not None and chosen[plug] is None:
            if weight_of(slots, price, weights) == weights[plug]:
                chosen[plug] = number
    return chosen


def grown(family, chosen, state):
    """The tree at the state in which each part is the variant chosen for its state."""
    tree = []
    waiting = [state]
    while waiting:
        number = chosen[waiting.pop()]
        tree.append(number)
        waiting.extend(family[2][number][1][::-1])
    return tuple(tree)
