"""Conflicts of demands, and the corrections that resolve them [303]."""

from slotwise.explanations import is_feasible


def conflicts_of(family, names, demands, budget):
    """All conflicts of the demands within the budget."""
    conflicts = []
    for numbers in _all_sets(len(demands)):
        if not any([_contains(numbers, conflict) for conflict in conflicts]):
            chosen = tuple([demands[number] for number in numbers])
            if not is_feasible(family, names, chosen, budget):
                conflicts.append(numbers)
    return tuple(conflicts)


def corrections_of(family, names, demands, budget):
    """All corrections of the demands within the budget.

    What is left behind a set of demands is feasible if and only if the set has a demand of each conflict.
    """
    conflicts = conflicts_of(family, names, demands, budget)
    corrections = []
    for numbers in _all_sets(len(demands)):
        if not any([_contains(numbers, correction) for correction in corrections]):
            if all([_meets(numbers, conflict) for conflict in conflicts]):
                corrections.append(numbers)
    return tuple(corrections)


def _all_sets(many):
    """All sets of numbers below `many`, shorter ones first, equally long ones ascending."""
    sets = [()]
    for number in range(many):
        sets = sets + [numbers + (number,) for numbers in sets]
    return sorted(sets, key=lambda numbers: (len(numbers), numbers))


def _contains(numbers, others):
    """Whether all the other numbers are among the numbers."""
    return all([other in numbers for other in others])


def _meets(numbers, others):
    """Whether one of the other numbers is among the numbers."""
    return any([other in numbers for other in others])
