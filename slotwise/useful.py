"""Which states are filled and reached, and which variants are useful [140]."""

from slotwise.families import links_of, reach, repriced, users_of


def filled_states(family):
    """The filled states, ascending."""
    return _marked(_filled(family))


def reached_states(family):
    """The reached states, ascending."""
    return _marked(_reached(family, fillable_variants(family)))


def useful_variants(family):
    """The numbers of the useful variants, ascending."""
    numbers = fillable_variants(family)
    reached = _reached(family, numbers)
    return tuple([number for number in numbers if reached[family[2][number][0]]])


def trimmed(family):
    """The family in which all variants that are not useful are missing."""
    useful = set(useful_variants(family))
    prices = [variant[2] if number in useful else None for number, variant in enumerate(family[2])]
    return repriced(family, prices)


def fillable_variants(family):
    """The numbers of the variants that can be filled, ascending."""
    filled = _filled(family)
    return [
        number
        for number, (_, slots, price) in enumerate(family[2])
        if price is not None and all([filled[state] for state in slots])
    ]


def _filled(family):
    """For each state whether it is filled."""
    filled = [False] * family[0]
    variants = family[2]
    users = users_of(family)
    empty_slots = [len(variant[1]) for variant in variants]
    ready = [
        number
        for number, (_, slots, price) in enumerate(variants)
        if price is not None and not slots
    ]
    while ready:
        plug = variants[ready.pop()][0]
        if not filled[plug]:
            filled[plug] = True
            for number in users[plug]:
                empty_slots[number] -= 1
                if empty_slots[number] == 0:
                    ready.append(number)
    return filled


def _reached(family, numbers):
    """For each state whether it is reached, by the variants that can be filled."""
    return reach(links_of(family, numbers), family[1])


def _marked(marks):
    """The states with a mark."""
    return tuple([state for state, mark in enumerate(marks) if mark])
