"""Tests of slotwise/catalogues.py, as far as it is there: point 340."""

import unittest

from slotwise.catalogues import Catalogue
from slotwise.errors import DuplicateComponent, EmptyRange, NotAProduct
from slotwise.variants import family_of, slot_names_of, variants_of
from tests.helpers import CABINET, CABINETS, LAMPS, RACKS, STANDS, all_products, is_plain

LARGE = (("stand", ("large",)), ("arm", (2, "large", "large")), ("bulb", ("large",)))


class TestCatalogue(unittest.TestCase):
    def test_an_invalid_definition_is_refused(self):
        with self.assertRaises(DuplicateComponent) as caught:
            Catalogue((CABINETS[0], (CABINET, CABINET), "niche"))
        self.assertEqual(caught.exception.name, "cabinet")
        with self.assertRaises(EmptyRange):
            Catalogue(((("niche", (("width", ("range", 1, 0)),)),), (CABINET,), "nowhere"))

    def test_properties(self):
        for definition in (LAMPS, CABINETS, RACKS):
            catalogue = Catalogue(definition)
            self.assertEqual(catalogue.definition, definition)
            self.assertEqual(catalogue.family, family_of(definition))
            self.assertEqual(catalogue.slot_names, slot_names_of(definition))
            expected = [(row[0], *variant) for row in definition[1] for variant in variants_of(definition, row[0])]
            self.assertEqual(catalogue.variants, tuple(expected))
            self.assertTrue(is_plain(catalogue.variants))
        self.assertEqual(Catalogue(LAMPS).family, STANDS)

    def test_products_and_trees(self):
        lamps = Catalogue(LAMPS)
        self.assertEqual(lamps.tree_of(LARGE), (1, 5, 8))
        self.assertEqual(lamps.product_of((1, 5, 8)), LARGE)
        for tree in all_products(STANDS, 4):
            product = lamps.product_of(tree)
            self.assertTrue(is_plain(product))
            self.assertEqual(lamps.tree_of(product), tree)

    def test_what_is_no_product(self):
        lamps = Catalogue(LAMPS)
        stand, arm, bulb = LARGE
        for product in (
            (), (stand,), LARGE[:2], LARGE + (bulb,), LARGE[1:], (stand, bulb, arm), (("clamp", ()),),
            (stand, ("arm", (2, "large", "small")), bulb), (stand, ("arm", ("2", "large", "large")), bulb),
            (stand, ("arm", (3, "large", "large")), bulb), (stand, ("arm", (2, "large")), bulb),
            (stand, ("lamp", ("large",)), bulb), (stand, ("bulb", ("small",))), (("stand", ()), ("bulb", ("large",))),
            (("bulb", ("large",)),), (("stand", ("large",)), ("bulb", (1,) * 15)), (arm,) * 100,
        ):
            with self.assertRaises(NotAProduct):
                lamps.tree_of(product)

    def test_several_catalogues(self):
        lamps = Catalogue(LAMPS)
        racks = Catalogue(RACKS)
        self.assertEqual(lamps.variants, Catalogue(LAMPS).variants)
        self.assertNotEqual(lamps.variants, racks.variants)
        self.assertEqual(lamps.tree_of(LARGE), (1, 5, 8))


if __name__ == "__main__":
    unittest.main()
