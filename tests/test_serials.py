"""Tests of slotwise/serials.py: points 240 and 241."""

import random
import unittest

from slotwise.counting import counts_by_size, product_count
from slotwise.serials import product_at, serial_of
from slotwise.trees import is_product
from tests.helpers import (
    EMPTY_SLOTS, FIXED, FORKS, NOTHING, STANDS, all_products, check_independent, families_by_chance, is_plain,
    row_family,
)

# Two roots whose variants stand mixed; the first one is also in the slots of the second one.
ROOTS = (3, (0, 2), ((2, (0, 0), -3), (0, (1,), 4), (2, (), 0), (1, (), 1), (0, (), None), (1, (1,), 0), (0, (), 7)))
LARGE = (2, (0,), ((0, (0, 1, 0), 1),) * 290 + ((1, (0, 0), 2),) * 20 + ((0, (), 0),) * 290)


def in_serial_order(trees):
    """The products in the serial order."""
    return sorted(trees, key=lambda tree: (len(tree), tree))


class TestSerials(unittest.TestCase):
    def check_all(self, family, most):
        """Check all products with at most `most` parts, and that there are no others."""
        products = in_serial_order(all_products(family, most))
        for serial, tree in enumerate(products):
            self.assertEqual(serial_of(family, tree), serial)
            self.assertEqual(product_at(family, serial, most), tree)
        for serial in (len(products), len(products) + 1, 10 ** 60 - 1):
            self.assertIsNone(product_at(family, serial, most))
        return len(products)

    def test_examples(self):
        self.assertEqual(serial_of(FORKS, (0, 1, 0, 1, 1)), 3)
        self.assertEqual(product_at(FORKS, 2, 5), (0, 0, 1, 1, 1))
        self.assertIsNone(product_at(FORKS, 4, 5))
        self.assertEqual(product_at(FORKS, 4, 7), (0, 0, 0, 1, 1, 1, 1))

    def test_all_products_of_examples(self):
        self.assertEqual(self.check_all(FORKS, 11), 1 + 1 + 2 + 5 + 14 + 42)
        self.assertEqual(self.check_all(FIXED, 12), 3)
        self.assertEqual(self.check_all(STANDS, 7), 2 + 5 + 12 + 28 + 64 + 144)

    def test_the_number_of_parts_comes_first(self):
        self.assertEqual(serial_of(FIXED, (0, 3)), 0)
        self.assertEqual(serial_of(FIXED, (1, 4)), 1)
        self.assertEqual(serial_of(FIXED, (1, 2, 3)), 2)
        # Prices do not matter.
        cheap = FIXED[:2] + (tuple((plug, slots, -price) for plug, slots, price in FIXED[2]),)
        self.assertEqual([serial_of(cheap, tree) for tree in ((0, 3), (1, 4), (1, 2, 3))], [0, 1, 2])

    def test_several_roots(self):
        self.assertEqual(self.check_all(ROOTS, 8), 30)
        expected = [(2,), (6,), (1, 3), (0, 6, 6), (1, 5, 3)]
        self.assertEqual([product_at(ROOTS, serial, 3) for serial in range(5)], expected)

    def test_no_root_and_no_product(self):
        for family in (NOTHING, EMPTY_SLOTS, (4, (), STANDS[2])):
            for serial in (0, 1, 10 ** 60 - 1):
                for most in (1, 12):
                    self.assertIsNone(product_at(family, serial, most))

    def test_missing_and_useless_variants(self):
        family = (3, (0,), ((0, (), None), (0, (2,), 1), (1, (), 1), (0, (1,), 1), (0, (), 1), (1, (), None)))
        self.assertEqual(self.check_all(family, 12), 2)
        self.assertEqual(serial_of(family, (3, 2)), 1)

    def test_bounds_of_most(self):
        self.assertEqual(product_at(FORKS, 0, 1), (1,))
        self.assertIsNone(product_at(FORKS, 1, 1))
        self.assertIsNone(product_at(FORKS, 1, 2))
        self.assertIsNone(product_at(STANDS, 0, 1))
        self.assertEqual(product_at(STANDS, 1, 2), (1, 8))
        self.assertIsNone(product_at(STANDS, 2, 2))
        chain = (1, (0,), ((0, (0,), 1), (0, (), 1)))
        self.assertEqual(product_at(chain, 11, 12), (0,) * 11 + (1,))
        self.assertIsNone(product_at(chain, 12, 12))
        self.assertEqual(serial_of(chain, (0,) * 11 + (1,)), 11)
        # With more parts allowed the serial numbers stay the same.
        for most in range(5, 13):
            self.assertEqual(product_at(FORKS, 3, most), (0, 1, 0, 1, 1))

    def test_products_of_exactly_12_parts(self):
        row = row_family((1,) * 11)
        self.assertEqual(product_at(row, 0, 12), tuple(range(12)))
        self.assertIsNone(product_at(row, 0, 11))
        self.assertEqual(serial_of(row, tuple(range(12))), 0)

    def test_many_products(self):
        counts = counts_by_size(LARGE, 0, 12)
        total = sum(counts)
        self.assertGreater(total, 10 ** 20)
        chance = random.Random(81)
        serials = [0, 1, counts[0] - 1, counts[0], total - 2, total - 1] + [chance.randrange(total) for _ in range(30)]
        last = None
        for serial in sorted(serials):
            tree = product_at(LARGE, serial, 12)
            self.assertTrue(is_product(LARGE, tree))
            self.assertTrue(is_plain(tree))
            self.assertEqual(serial_of(LARGE, tree), serial)
            if last is not None:
                self.assertLess((len(last), last), (len(tree), tree))
            last = tree
        for serial in (total, 10 ** 59, 10 ** 60 - 1):
            self.assertIsNone(product_at(LARGE, serial, 12))

    def test_against_all_products(self):
        some = 0
        for family in families_by_chance(200, states=3, variants=6, slots=3, low=-3, seed=82):
            some += self.check_all(family, 6) > 10
        self.assertGreater(some, 20)

    def test_against_counts(self):
        for family in families_by_chance(200, states=3, variants=6, slots=2, seed=83):
            sizes = [sum(counts_by_size(family, root, 12)[parts] for root in family[1]) for parts in range(12)]
            total = 0
            for parts, many in enumerate(sizes, 1):
                if many:
                    # The first and the last product with so many parts.
                    first, last = product_at(family, total, 12), product_at(family, total + many - 1, 12)
                    self.assertEqual((len(first), len(last)), (parts, parts))
                    self.assertEqual((serial_of(family, first), serial_of(family, last)), (total, total + many - 1))
                total += many
                found = product_at(family, total, parts)
                self.assertIsNone(found)
            if product_count(family) is not None and product_count(family) == total:
                self.assertIsNone(product_at(family, total, 12))


class TestArgumentsAlone(unittest.TestCase):
    def test_one_after_another(self):
        check_independent(self, serial_of, (FORKS, (0, 1, 1)), (FORKS, (0, 1, 0, 1, 1)))
        check_independent(self, serial_of, (STANDS, (1, 6, 7)), (FIXED, (1, 2, 3)))
        check_independent(self, product_at, (FORKS, 2, 5), (STANDS, 2, 5))
        check_independent(self, product_at, (FORKS, 4, 5), (FORKS, 4, 7))


if __name__ == "__main__":
    unittest.main()
