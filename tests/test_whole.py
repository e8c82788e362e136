"""Tests of what the document promises over the whole program: points 1, 2, 4, 101 and 105."""

import random
import unittest

from slotwise import errors
from slotwise.catalogues import Catalogue
from slotwise.certificates import certificate_of, is_sound, least_certificate
from slotwise.comparison import change_family, price_change
from slotwise.configurations import Configuration
from slotwise.containing import cheapest_with, cheapest_with_all, cheapest_without
from slotwise.counting import product_count
from slotwise.curves import curve_of
from slotwise.greatest import greatest_prices, price_ceiling, price_range
from slotwise.journals import replayed
from slotwise.least import cheapest
from slotwise.listing import read_definition, show_definition
from slotwise.normal import normal_form, shifted
from slotwise.ranking import first_products
from slotwise.serials import product_at, serial_of
from slotwise.special import specialised, without_blocks
from slotwise.surplus import surplus
from slotwise.transfer import is_ceiling, is_floor, least_prices, margins_of
from slotwise.trees import is_product, price_of
from slotwise.useful import trimmed, useful_variants
from slotwise.versions import balanced, compare
from slotwise.walks import Walk
from tests.helpers import (
    CABINETS, LAMPS, RACKS, all_products, demands_by_chance, families_by_chance, finite_family_by_chance, in_order,
    is_plain, meets, names_by_chance,
)

UNBOUNDED = "unbounded"


class TestSpecialisedFamilies(unittest.TestCase):
    """Questions about specialised families, against the products of the family that satisfy the demands."""

    def asked(self, chance, narrowed, family):
        """Variants of the family by chance, and all copies of them in the specialised family."""
        plain = [number for number in range(len(family[2])) if chance.random() < 0.4]
        return plain, tuple(number for number in range(len(narrowed[2])) if number % len(family[2]) in plain)

    def test_against_all_products(self):
        chance = random.Random(161)
        some = 0
        for _ in range(400):
            family = finite_family_by_chance(chance, states=4, variants=10)
            names = names_by_chance(family, chance)
            demands = demands_by_chance(family, chance)
            narrowed = specialised(family, names, demands)
            wanted = [tree for tree in all_products(family, 15) if meets(family, names, tree, demands)]
            wanted = in_order(family, wanted)
            plain, marked = self.asked(chance, narrowed, family)
            self.check_marked(family, narrowed, wanted, plain, marked)
            self.check_order(family, narrowed, wanted)
            self.assertEqual(product_count(narrowed), len(wanted))
            prices = [price_of(family, tree) for tree in wanted]
            self.assertEqual(price_range(narrowed), (min(prices), max(prices)) if wanted else None)
            self.assertIs(is_floor(narrowed, least_prices(narrowed)), True)
            self.assertIs(is_ceiling(trimmed(narrowed), price_ceiling(narrowed)), True)
            some += bool(demands and wanted)
        self.assertGreater(some, 60)

    def check_marked(self, family, narrowed, wanted, plain, marked):
        """Check the first products with and without marked variants, and the curve."""
        def back(tree):
            return None if tree is None else without_blocks(family, tree)

        having = [tree for tree in wanted if any(number in plain for number in tree)]
        lacking = [tree for tree in wanted if not any(number in plain for number in tree)]
        self.assertEqual(back(cheapest_with(narrowed, marked)), having[0] if having else None)
        self.assertEqual(back(cheapest_without(narrowed, marked)), lacking[0] if lacking else None)
        self.assertEqual(back(cheapest_with_all(narrowed, (marked, marked))), having[0] if having else None)
        points = {}
        for tree in wanted:
            points.setdefault((sum(number in plain for number in tree), price_of(family, tree)), tree)
        for many, price, tree in curve_of(narrowed, marked):
            self.assertEqual(points[(many, price)], back(tree))
        self.assertEqual(len(curve_of(narrowed, marked)) > 0, bool(wanted))

    def check_order(self, family, narrowed, wanted):
        """Check products in order and by serial numbers."""
        ordered = [tree for tree in wanted if len(tree) <= 10]
        found = Walk(narrowed, 10).take(60)
        self.assertEqual([without_blocks(family, tree) for tree in found], ordered[:60])
        serial = sorted((tree for tree in wanted if len(tree) <= 12), key=lambda tree: (len(tree), tree))
        for number, tree in list(enumerate(serial))[:5]:
            self.assertEqual(without_blocks(family, product_at(narrowed, number, 12)), tree)
            self.assertEqual(serial_of(narrowed, product_at(narrowed, number, 12)), number)

    def test_nine_demands_with_paths_of_four_names(self):
        family = (2, (0,), ((0, (0, 1, 0), 2), (0, (), 3), (1, (), 1), (1, (0,), 0), (0, (1,), 1)) * 8)
        names = (("a", "b", "c"), (), (), ("a",), ("b",)) * 8
        paths = ("aaaa", "abaa", "caca", "ccac", "cbab", "acba", "aaba", "cccc", "a")
        demands = tuple((tuple(path), tuple(range(at, 40))) for at, path in enumerate(paths))
        narrowed = specialised(family, names, demands)
        self.assertGreater(narrowed[0], 40)
        tree = cheapest(narrowed)
        product = without_blocks(family, tree)
        self.assertTrue(meets(family, names, product, demands))
        self.assertTrue(is_product(family, product))
        certificate = least_certificate(family, names, demands)
        self.assertEqual(certificate[1], product)
        self.assertIs(is_sound(family, names, demands, 0, certificate), True)
        self.assertEqual(cheapest_with(narrowed, (tree[-1],)), tree)
        self.assertEqual(curve_of(narrowed, ()), ((0, price_of(family, product), tree),))
        self.assertEqual(normal_form(narrowed)[0], ((2, price_of(family, product)),))
        self.assertIsNotNone(surplus(narrowed, 2))
        self.assertEqual(certificate_of(family, names, demands, None), ("feasible", product))


class TestChangesAndShifts(unittest.TestCase):
    def test_a_surplus_shows_that_changes_are_unbounded(self):
        chance = random.Random(162)
        above = below = 0
        for first in families_by_chance(400, states=3, variants=9, slots=2, seed=163):
            prices = [None if price is None else max(0, price + chance.choice((0, 0, 0, 0, 1, -1)))
                      for _, _, price in first[2]]
            second = first[:2] + (tuple(row[:2] + (price,) for row, price in zip(first[2], prices)),)
            change = price_change(first, second)
            changes = change_family(first, second)
            fall = change_family(second, first)
            for family, unbounded in ((changes, change and change[1] is None), (fall, change and change[0] is None)):
                found = [surplus(family, root) for root in family[1]]
                self.assertEqual(any(one is not None for one in found), bool(unbounded))
                for root, one in zip(family[1], found):
                    self.assertEqual(one is not None, greatest_prices(family)[root] == UNBOUNDED)
                    if one is not None:
                        self.assertGreater(sum(many * family[2][number][2] for number, many in one), 0)
            above += change is not None and change[1] is None
            below += change is not None and change[0] is None
        self.assertGreater(above, 10)
        self.assertGreater(below, 10)

    def test_shifted_families_have_the_same_products_in_the_same_order(self):
        chance = random.Random(164)
        for family in families_by_chance(150, states=3, variants=7, slots=2, seed=165):
            numbers = tuple(0 if root in family[1] else chance.randint(-9, 9) for root in range(family[0]))
            moved = shifted(family, numbers)
            self.assertEqual(first_products(moved, many=60, most=6), first_products(family, many=60, most=6))
            self.assertEqual(useful_variants(moved), useful_variants(family))
            table = least_prices(family)
            moved_table = tuple(None if price is None else price + number for price, number in zip(table, numbers))
            self.assertIs(is_floor(moved, moved_table), True)
            self.assertEqual(margins_of(moved, moved_table), margins_of(family, table))


class TestFromTextToAnswers(unittest.TestCase):
    def test_from_a_text_to_a_configuration(self):
        for definition in (LAMPS, RACKS, CABINETS):
            catalogue = Catalogue(read_definition(show_definition(definition)))
            self.assertEqual(catalogue.definition, definition)
            self.assertEqual(compare(catalogue, Catalogue(definition))[:2], (None, None))
            self.assertIsNotNone(balanced(catalogue, Catalogue(definition)))
            desk = Configuration(catalogue)
            first = desk.cheapest()
            desk.choose((), "component", first[0][0])
            desk.set_budget(catalogue.price_of(first))
            desk.undo()
            again = replayed(Catalogue(definition), desk.journal)
            self.assertEqual((again.choices, again.journal), (desk.choices, desk.journal))
            self.assertTrue(is_plain((desk.journal, desk.choices, first)))


class TestErrors(unittest.TestCase):
    def test_errors_that_are_raised_are_of_the_classes_that_the_document_names(self):
        catalogue = Catalogue(LAMPS)
        for ask, error in (
            (lambda: catalogue.tree_of(()), errors.NotAProduct),
            (lambda: catalogue.variants_of("x"), errors.UnknownComponent),
            (lambda: catalogue.cheapest_with("arm", (("x", 1),)), errors.UnknownVariable),
            (lambda: compare(catalogue, Catalogue(RACKS)), errors.Incompatible),
            (lambda: replayed(catalogue, (("undo",),)), errors.NotReplayable),
            (lambda: Configuration(catalogue).retract((), "component"), errors.NotChosen),
            (lambda: read_definition(""), errors.MissingLine),
        ):
            with self.assertRaises(errors.SlotError) as caught:
                ask()
            self.assertIs(type(caught.exception), error)
            self.assertIsInstance(caught.exception, ValueError)


if __name__ == "__main__":
    unittest.main()
