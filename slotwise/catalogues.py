"""Catalogues: the family of a definition together with its names [340]."""

from slotwise.definitions import check_definition
from slotwise.errors import NotAProduct
from slotwise.trees import is_product
from slotwise.variants import family_of, slot_names_of, variants_of


class Catalogue:
    """The catalogue of a valid definition; it never changes."""

    def __init__(self, definition):
        check_definition(definition)
        variants = []
        for component in definition[1]:
            rows = variants_of(definition, component[0])
            variants.extend([(component[0], values, price) for values, price in rows])
        self._definition = definition
        self._family = family_of(definition)
        self._variants = tuple(variants)
        self._slot_names = slot_names_of(definition)

    @property
    def definition(self):
        """The definition that the catalogue is made of."""
        return self._definition

    @property
    def family(self):
        """The family of the definition."""
        return self._family

    @property
    def variants(self):
        """All variants in order, triples of the component, the assignment and the price."""
        return self._variants

    @property
    def slot_names(self):
        """For each variant the names of its slots."""
        return self._slot_names

    def product_of(self, tree):
        """The product of the catalogue for a product of its family."""
        return tuple([self._variants[number][:2] for number in tree])

    def tree_of(self, product):
        """The product of the family for a product of the catalogue; raises NotAProduct."""
        tree = tree_by_names(self, product)
        if tree is None:
            raise NotAProduct("the tuple is not a product of the catalogue")
        return tree


def tree_by_names(catalogue, product):
    """The product of the family for a product of the catalogue, None if the tuple is not one."""
    numbers = {variant[:2]: number for number, variant in enumerate(catalogue.variants)}
    # No variant has the number -1, so a part that does not exist is in no product.
    tree = tuple([numbers.get(part, -1) for part in product])
    return tree if is_product(catalogue.family, tree) else None
