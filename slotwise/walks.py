"""Walks through the products of a family in their order [261]."""

from slotwise.ranking import first_products

FEWEST_ASKED = 8


class Walk:
    """A walk through the products with at most `most` parts."""

    def __init__(self, family, most):
        self._family = family
        self._most = most
        self._given = 0
        # The first products as far as they are known, and how many were asked for when they were found.
        self._found = ()
        self._asked = 0

    @property
    def given(self):
        """The number of products that the walk has given."""
        return self._given

    def step(self):
        """Give the next product; None at the end of the walk."""
        products = self.take(1)
        return products[0] if products else None

    def take(self, many):
        """Give the next `many` products, or as many as are left."""
        wanted = self._given + many
        # If fewer have been found than were asked for, there are no others.
        if wanted > self._asked and len(self._found) == self._asked:
            self._asked = max(wanted, 2 * self._asked, FEWEST_ASKED)
            self._found = first_products(self._family, many=self._asked, most=self._most)
        products = self._found[self._given:wanted]
        self._given += len(products)
        return products
