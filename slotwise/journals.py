"""Replaying journals of configurations [366]."""

from slotwise.configurations import Configuration
from slotwise.errors import NotReplayable, SlotError


def replayed(catalogue, journal):
    """The configuration of the catalogue that results from replaying the journal."""
    configuration = Configuration(catalogue)
    for place, entry in enumerate(journal):
        try:
            done = _carried_out(configuration, entry)
        except SlotError:
            raise NotReplayable(place) from None
        if not done:
            raise NotReplayable(place)
    return configuration


def _carried_out(configuration, entry):
    """Carry out the call of the entry, and tell whether it has done anything."""
    match entry:
        case ("choose", path, name, value):
            configuration.choose(path, name, value)
        case ("retract", path, name):
            configuration.retract(path, name)
        case ("exchange", path, name, value):
            configuration.exchange(path, name, value)
        case ("set_budget", budget):
            configuration.set_budget(budget)
        case _:
            return configuration.undo()
    return True
