"""Boards: least weights of a family while its prices change [124]."""

from slotwise.least import cheapest, least_weights


class Board:
    """A board that keeps the least weights of a family while prices change."""

    def __init__(self, family):
        self._family = family
        self._weights = least_weights(family)
        self._earlier = []

    @property
    def family(self):
        """The family in force."""
        return self._family

    @property
    def weights(self):
        """The least weights of the family in force."""
        return self._weights

    @property
    def changes(self):
        """The number of repricings that can be undone."""
        return len(self._earlier)

    def reprice(self, variant, price):
        """Give the variant with this number a new price; returns the states whose least weight has changed."""
        count, roots, variants = self._family
        plug, slots, _ = variants[variant]
        rows = variants[:variant] + ((plug, slots, price),) + variants[variant + 1:]
        self._earlier.append(self._family)
        return self._put_in_force((count, roots, rows))

    def undo(self):
        """Take back a repricing; returns the states whose least weight has changed, None if there is none."""
        if not self._earlier:
            return None
        return self._put_in_force(self._earlier.pop())

    def cheapest(self):
        """The cheapest product of the family in force, None if there is none."""
        return cheapest(self._family)

    def _put_in_force(self, family):
        """Put the family in force; returns the states whose least weight has changed."""
        earlier = self._weights
        self._family = family
        self._weights = least_weights(family)
        return tuple([state for state, weight in enumerate(self._weights) if weight != earlier[state]])
