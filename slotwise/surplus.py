"""What can be added to trees any number of times where prices are unbounded [203]."""

from slotwise.families import groups_of, links_of, reach, rows_by_state
from slotwise.useful import fillable_variants


def surplus(family, state):
    """A surplus at the state, None if the prices there are not unbounded."""
    numbers = fillable_variants(family)
    links = links_of(family, numbers)
    needed = reach(links, (state,))
    rows = rows_by_state(family, numbers)
    prices = [None] * family[0]
    chosen = [None] * family[0]
    for group in groups_of(links):
        if needed[group[0]]:
            number = _gaining_variant(family, group, rows, prices, chosen)
            if number is not None:
                return _counted(family, chosen, number)
    return None


def _gaining_variant(family, group, rows, prices, chosen):
    """Raise the prices of the group until they are the greatest ones, and return None; or a gaining variant.

    The chosen variants make a tree for each state, which costs at least the price of the state.
    A variant is gaining if it costs more than the price of its plug and the chosen tree of its plug
    is inside. If prices rise in more rounds than the group has states, one of them is found.
    """
    risen = True
    while risen:
        risen = False
        for state in group:
            for number, slots, price in rows[state]:
                inside = [prices[other] for other in slots]
                if None not in inside and (prices[state] is None or price + sum(inside) > prices[state]):
                    if reach(_chosen_links(family, chosen), slots)[state]:
                        return number
                    prices[state] = price + sum(inside)
                    chosen[state] = number
                    risen = True
    return None


def _chosen_links(family, chosen):
    """For each state the states of the slots of the variant that is chosen for it."""
    return [() if number is None else family[2][number][1] for number in chosen]


def _counted(family, chosen, root):
    """The parts between a gaining variant and the tree of its plug inside, pairs of the variant and their number."""
    plug, slots, _ = family[2][root]
    waiting = [0] * family[0]
    for state in slots:
        waiting[state] += 1
    counts = {root: 1}
    # No state needs itself, so each group is one state. Those that need a state come before it.
    for group in groups_of(_chosen_links(family, chosen))[::-1]:
        state = group[0]
        # One of the trees at the plug is what remains below when the other parts are added.
        many = waiting[state] - 1 if state == plug else waiting[state]
        if many > 0:
            number = chosen[state]
            counts[number] = counts.get(number, 0) + many
            for other in family[2][number][1]:
                waiting[other] = waiting[other] + many
    return tuple(sorted(counts.items()))
