"""Which demands are feasible, and which of them keep a further demand from being feasible [300] to [302]."""

from slotwise.special import least_with


def is_feasible(family, names, demands, budget):
    """Whether some product within the budget satisfies all demands."""
    least = least_with(family, names, demands)
    return least is not None and (budget is None or least <= budget)


def explanation_of(family, names, demands, demand, budget):
    """The indices of the explanation of the further demand, None if it is feasible together with all demands."""
    left = list(range(len(demands)))
    if _goes_with(family, names, demands, left, demand, budget):
        return None
    for number in reversed(range(len(demands))):
        others = [other for other in left if other != number]
        if not _goes_with(family, names, demands, others, demand, budget):
            left = others
    return tuple(left)


def kept_of(family, names, demands, demand, budget):
    """The indices of the demands kept beside the further demand, None if it is not feasible alone."""
    kept = []
    if not _goes_with(family, names, demands, kept, demand, budget):
        return None
    for number in reversed(range(len(demands))):
        more = [number] + kept
        if _goes_with(family, names, demands, more, demand, budget):
            kept = more
    return tuple(kept)


def _goes_with(family, names, demands, numbers, demand, budget):
    """Whether the further demand and those of the demands that have these numbers are feasible."""
    chosen = tuple([demands[number] for number in numbers])
    return is_feasible(family, names, chosen + (demand,), budget)
