"""What the modules about families share: other prices, rows, links and groups of states, and the bound for trees."""

from slotwise.errors import TooManyParts

MOST_PARTS = 100


def check_parts(parts):
    """Raise TooManyParts if a tree with this number of parts is not returned [105]."""
    if parts > MOST_PARTS:
        raise TooManyParts(parts)


def repriced(family, prices):
    """The family in which the variants have these prices, None for those that are missing."""
    count, roots, variants = family
    rows = [(variant[0], variant[1], price) for variant, price in zip(variants, prices)]
    return (count, roots, tuple(rows))


def without(family, numbers):
    """The family in which the numbered variants are missing."""
    barred = set(numbers)
    prices = [None if number in barred else variant[2] for number, variant in enumerate(family[2])]
    return repriced(family, prices)


def rows_by_state(family, numbers):
    """For each state the rows (number, slots, price) of those of the numbered variants that have it as plug."""
    rows = [[] for _ in range(family[0])]
    for number in numbers:
        plug, slots, price = family[2][number]
        rows[plug].append((number, slots, price))
    return rows


def users_of(family):
    """For each state the variants that are not missing and have slots of this state, once for each such slot."""
    users = [[] for _ in range(family[0])]
    for number, (_, slots, price) in enumerate(family[2]):
        if price is not None:
            for state in slots:
                users[state].append(number)
    return users


def links_of(family, numbers):
    """For each state the states of the slots of those of the numbered variants that have it as plug."""
    found = [[] for _ in range(family[0])]
    for number in numbers:
        plug, slots, _ = family[2][number]
        found[plug].extend(slots)
    return [sorted(set(states)) for states in found]


def reach(links, starts):
    """For each state whether links lead to it from one of the starts; every start is among them."""
    reached = [False] * len(links)
    pending = list(starts)
    while pending:
        state = pending.pop()
        if not reached[state]:
            reached[state] = True
            pending.extend(links[state])
    return reached


def groups_of(links):
    """The states in groups: links lead from each state of a group to all others.

    A group stands behind all other groups to which its links lead, so what is needed first comes first.
    """
    seen = [False] * len(links)
    groups = []
    for start in _leaving_order(_turned(links))[::-1]:
        if not seen[start]:
            groups.append(_new_states(links, start, seen))
    return groups


def is_cyclic(links, group):
    """Whether links lead from a state of the group back to it."""
    return len(group) > 1 or group[0] in links[group[0]]


def _turned(links):
    """The links in the other direction."""
    turned = [[] for _ in links]
    for state, others in enumerate(links):
        for other in others:
            turned[other].append(state)
    return turned


def _leaving_order(links):
    """The states in the order in which a search into the depth leaves them."""
    order = []
    seen = [False] * len(links)
    for start in range(len(links)):
        # A state is left when it is met for the second time on the stack, behind all that it leads to.
        pending = [(start, False)]
        while pending:
            state, done = pending.pop()
            if done:
                order.append(state)
            elif not seen[state]:
                seen[state] = True
                pending.append((state, True))
                pending.extend([(other, False) for other in links[state]])
    return order


def _new_states(links, start, seen):
    """The states, ascending, to which links lead from the start and that have not been seen; now they are."""
    states = []
    pending = [start]
    while pending:
        state = pending.pop()
        if not seen[state]:
            seen[state] = True
            states.append(state)
            pending.extend(links[state])
    return sorted(states)
