"""Catalogues: the family of a definition together with its names [340], [341]."""

from slotwise.containing import cheapest_with
from slotwise.counting import product_count
from slotwise.definitions import check_definition
from slotwise.domains import port_states, variables_of
from slotwise.errors import NotAProduct, UnknownVariable
from slotwise.families import without
from slotwise.greatest import price_range
from slotwise.least import cheapest
from slotwise.ranking import first_products
from slotwise.transfer import least_prices
from slotwise.trees import is_product, price_of
from slotwise.useful import useful_variants
from slotwise.variants import family_of, slot_names_of, variants_of


class Catalogue:
    """The catalogue of a valid definition; it never changes."""

    def __init__(self, definition):
        check_definition(definition)
        variants = []
        for component in definition[1]:
            rows = variants_of(definition, component[0])
            variants.extend([(component[0], values, price) for values, price in rows])
        self._definition = definition
        self._family = family_of(definition)
        self._states = port_states(definition)
        self._variants = tuple(variants)
        self._slot_names = slot_names_of(definition)
        self._numbers = _numbers_of(self._variants)

    @property
    def definition(self):
        """The definition that the catalogue is made of."""
        return self._definition

    @property
    def family(self):
        """The family of the definition."""
        return self._family

    @property
    def states(self):
        """The port states in order."""
        return self._states

    @property
    def variants(self):
        """All variants in order, triples of the component, the assignment and the price."""
        return self._variants

    @property
    def slot_names(self):
        """For each variant the names of its slots."""
        return self._slot_names

    def __len__(self):
        return len(self._variants)

    def __iter__(self):
        return iter(self._variants)

    def __contains__(self, product):
        return tree_by_names(self, product) is not None

    def variants_of(self, component):
        """The variants of the component in order, pairs of the assignment and the price."""
        return variants_of(self._definition, component)

    def number_of(self, component, values):
        """The number of the variant of the component with this assignment, None if there is none."""
        return self._numbers.get((component, values))

    def product_of(self, tree):
        """The product of the catalogue for a product of its family."""
        return tuple([self._variants[number][:2] for number in tree])

    def tree_of(self, product):
        """The product of the family for a product of the catalogue; raises NotAProduct."""
        tree = tree_by_names(self, product)
        if tree is None:
            raise NotAProduct("the tuple is not a product of the catalogue")
        return tree

    def price_of(self, product):
        """The price of the product; raises NotAProduct."""
        return price_of(self._family, self.tree_of(product))

    def bill(self, product):
        """For each component of the product the number of its parts and the sum of their prices; raises NotAProduct."""
        parts = [self._variants[number] for number in self.tree_of(product)]
        rows = []
        for component in self._definition[1]:
            prices = [price for name, _, price in parts if name == component[0]]
            if prices:
                rows.append((component[0], len(prices), sum(prices)))
        return tuple(rows)

    def price_range(self):
        """The pair of the least and the greatest price of a product, None if there is no product."""
        return price_range(self._family)

    def cheapest(self):
        """The cheapest product, None if there is no product."""
        return self._named(cheapest(self._family))

    def cheapest_with(self, component, values):
        """The first product that has a part of the component with the given values, None if there is none."""
        variables = variables_of(self._definition, component)
        places = {name: place for place, (name, _) in enumerate(variables)}
        for name, _ in values:
            if name not in places:
                raise UnknownVariable(name)
        marked = [
            number
            for number, (other, assignment, _) in enumerate(self._variants)
            if other == component and all([assignment[places[name]] == value for name, value in values])
        ]
        return self._named(cheapest_with(self._family, tuple(marked)))

    def first_products(self, *, many=10, most=8):
        """The first `many` of the products with at most `most` parts."""
        return tuple([self.product_of(tree) for tree in first_products(self._family, many=many, most=most)])

    def dead_components(self):
        """The names of the components of which no product has a part."""
        used = [self._variants[number][0] for number in useful_variants(self._family)]
        return tuple([component[0] for component in self._definition[1] if component[0] not in used])

    def core_components(self):
        """The names of the components of which every product has a part; none if there is no product."""
        if not useful_variants(self._family):
            return ()
        return tuple([component[0] for component in self._definition[1] if self._needs(component[0])])

    def product_count(self):
        """The number of products, None if there are infinitely many."""
        return product_count(self._family)

    def price_table(self):
        """The port states at which there is a tree, each with the least price of these trees."""
        return with_names(self._states, least_prices(self._family))

    def _named(self, tree):
        """The product of the catalogue for a product of its family, None for None."""
        return None if tree is None else self.product_of(tree)

    def _needs(self, component):
        """Whether there is no product without a part of the component."""
        numbers = [number for number, variant in enumerate(self._variants) if variant[0] == component]
        return not useful_variants(without(self._family, numbers))


def tree_by_names(catalogue, product):
    """The product of the family for a product of the catalogue, None if the tuple is not one."""
    numbers = _numbers_of(catalogue.variants)
    # No variant has the number -1, so a part that does not exist is in no product.
    tree = tuple([numbers.get(part, -1) for part in product])
    return tree if is_product(catalogue.family, tree) else None


def with_names(states, table):
    """The triples of the port kinds, the values and the prices of the port states for which the table has a price."""
    return tuple([state + (price,) for state, price in zip(states, table) if price is not None])


def _numbers_of(variants):
    """The number of each variant, by the pair of its component and its assignment."""
    return {variant[:2]: number for number, variant in enumerate(variants)}
