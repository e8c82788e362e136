"""Tests of slotwise/curves.py: points 190 and 191, with 103, 105 and 141."""

import fractions
import random
import unittest

from slotwise.curves import curve_of
from slotwise.errors import TooManyParts
from slotwise.least import cheapest
from slotwise.trees import is_product, price_of
from slotwise.useful import trimmed
from tests.helpers import (
    EMPTY_SLOTS, FIXED, FORKS, LONG_ROW_PARTS, NOTHING, STANDS, all_products, check_independent, families_by_chance,
    finite_family_by_chance, in_order, is_plain, long_row, row_of_100, row_of_101,
)

STEPS = (3, (0,), ((0, (), 10), (0, (1,), 1), (1, (), 3), (1, (2,), 0), (2, (), 1)))


def point_of(family, marked, tree):
    """The point of the product."""
    return (sum(number in marked for number in tree), price_of(family, tree))


def is_corner(point, points):
    """Whether there is a positive ratio of p and q by which the sum is less than that of every other point."""
    low, high = fractions.Fraction(0), None
    for many, price in points:
        # The ratio r has to be such that r * point[0] + point[1] is less than r * many + price.
        if many == point[0] and price < point[1]:
            return False
        bound = None if many == point[0] else fractions.Fraction(point[1] - price, many - point[0])
        if many > point[0]:
            low = max(low, bound)
        elif many < point[0]:
            high = bound if high is None else min(high, bound)
    return high is None or low < high


def told_curve(family, marked, products):
    """The curve of a family with these products, exactly as points 190 and 191 tell."""
    first = {}
    for tree in in_order(family, products):
        first.setdefault(point_of(family, marked, tree), tree)
    return tuple((*point, first[point]) for point in sorted(first) if is_corner(point, first))


def free_slots(prices):
    """A family whose products have a marked, cheap part or an unmarked one of the price in each slot."""
    many = len(prices)
    variants = [(0, tuple(range(1, many + 1)), 0)]
    for state, price in enumerate(prices, 1):
        variants.extend([(state, (), 0), (state, (), price)])
    return (many + 1, (0,), tuple(variants))


class TestCurveOf(unittest.TestCase):
    def check_count(self, count, family, marked):
        """Check that the first product that has too many parts has so many."""
        with self.assertRaises(TooManyParts) as caught:
            curve_of(family, marked)
        self.assertEqual(caught.exception.count, count)

    def test_examples(self):
        self.assertEqual(curve_of(STANDS, (6,)), ((0, 36, (0, 7)),))
        self.assertEqual(curve_of(STANDS, (0, 7)), ((0, 50, (1, 8)), (2, 36, (0, 7))))
        self.assertEqual(curve_of(STEPS, (1, 3)), ((0, 10, (0,)), (1, 4, (1, 2)), (2, 2, (1, 3, 4))))

    def test_no_product(self):
        for family in (NOTHING, EMPTY_SLOTS, (4, (), STANDS[2])):
            self.assertEqual(curve_of(family, ()), ())
        self.assertEqual(curve_of((4, (), STANDS[2]), (0, 7)), ())
        self.assertEqual(curve_of(EMPTY_SLOTS, (0, 1, 2)), ())

    def test_no_marked_variant(self):
        for family in (STANDS, FIXED, FORKS, STEPS):
            tree = cheapest(family)
            self.assertEqual(curve_of(family, ()), ((0, price_of(family, tree), tree),))

    def test_all_variants_marked(self):
        self.assertEqual(curve_of(STEPS, (0, 1, 2, 3, 4)), ((1, 10, (0,)), (2, 4, (1, 2)), (3, 2, (1, 3, 4))))
        self.assertEqual(curve_of(STANDS, tuple(range(10))), ((2, 36, (0, 7)),))

    def test_one_corner(self):
        self.assertEqual(curve_of(FORKS, (0,)), ((0, 1, (1,)),))
        self.assertEqual(curve_of(FORKS, (1,)), ((1, 1, (1,)),))

    def test_points_on_the_line_between_two_corners(self):
        family = (1, (0,), ((0, (), 9), (0, (), 6), (0, (), 3)))
        line = (2, (0,), ((0, (), 9), (0, (1,), 0), (1, (), 6), (1, (1,), 3), (1, (), 3)))
        # The points are (0, 9), (1, 6) and (2, 3): the second one is no corner.
        self.assertEqual(curve_of(line, (1, 4)), ((0, 9, (0,)), (2, 3, (1, 4))))
        self.assertEqual(curve_of(family, (1,)), ((0, 3, (2,)),))
        for price, corners in ((7, 2), (6, 2), (5, 3)):
            chain = (2, (0,), ((0, (), 9), (0, (), price), (0, (1,), 0), (1, (), 3)))
            self.assertEqual(len(curve_of(chain, (1, 2, 3))), corners, price)

    def test_points_above_the_line(self):
        self.assertEqual(curve_of(STANDS, (0, 7))[1], (2, 36, (0, 7)))
        chain = (2, (0,), ((0, (), 9), (0, (), 8), (0, (1,), 0), (1, (), 1)))
        self.assertEqual(curve_of(chain, (1, 2, 3)), ((0, 9, (0,)), (2, 1, (2, 3))))

    def test_several_products_at_one_point(self):
        family = (2, (0,), ((0, (1,), 1), (1, (), 4), (0, (), 5), (1, (), 4), (0, (), 5), (0, (), 2), (0, (), 2)))
        # The products (0, 1), (0, 3), (2,) and (4,) have the point (0, 5), the last two the point (1, 2).
        self.assertEqual(curve_of(family, (5, 6)), ((0, 5, (2,)), (1, 2, (5,))))
        self.assertEqual(curve_of(family, (2, 4, 5, 6)), ((0, 5, (0, 1)), (1, 2, (5,))))
        self.assertEqual(curve_of(family, (0, 2, 4, 5, 6)), ((1, 2, (5,)),))

    def test_marked_variants_that_are_missing_or_useless(self):
        family = (3, (0,), ((0, (), None), (0, (), 4), (2, (0,), 1), (0, (1,), 0), (0, (), 2)))
        self.assertEqual(curve_of(family, (0,)), ((0, 2, (4,)),))
        self.assertEqual(curve_of(family, (0, 2, 3)), ((0, 2, (4,)),))
        self.assertEqual(curve_of(family, (0, 2, 3, 4)), ((0, 4, (1,)), (1, 2, (4,))))

    def test_infinitely_many_products(self):
        self.assertEqual(curve_of(STANDS, (0, 2, 3, 4, 5, 7)), ((0, 50, (1, 8)), (2, 36, (0, 7))))
        self.assertEqual(curve_of(STANDS, (2, 3)), ((0, 36, (0, 7)),))
        # Each arm of the price 0 that is not marked can be repeated; the first product has none of them.
        family = (1, (0,), ((0, (0,), 0), (0, (0,), 1), (0, (), 5), (0, (), 2)))
        self.assertEqual(curve_of(family, (0, 3)), ((0, 5, (2,)), (1, 2, (3,))))

    def test_prices_of_0(self):
        free = (1, (0,), ((0, (0, 0), 0), (0, (0,), 0), (0, (), 0)))
        self.assertEqual(curve_of(free, (1,)), ((0, 0, (2,)),))
        self.assertEqual(curve_of(free, (2,)), ((1, 0, (2,)),))
        self.assertEqual(curve_of((1, (0,), ((0, (), 0), (0, (), 0))), (0,)), ((0, 0, (1,)),))
        chain = (2, (0,), ((0, (), 1), (0, (1,), 0), (1, (), 0)))
        self.assertEqual(curve_of(chain, (1, 2)), ((0, 1, (0,)), (2, 0, (1, 2))))

    def test_several_roots(self):
        family = (3, (0, 2), ((2, (), 3), (0, (), 3), (2, (), 1), (0, (1,), 0), (1, (), 1)))
        self.assertEqual(curve_of(family, (2, 3)), ((0, 3, (0,)), (1, 1, (2,))))
        self.assertEqual(curve_of((4, (1, 2, 3), FIXED[2]), (5,)), ((0, 6, (3,)), (1, 1, (5,))))

    def test_many_corners(self):
        curve = curve_of(free_slots((1, 4, 9)), (1, 3, 5))
        self.assertEqual([row[:2] for row in curve], [(0, 14), (1, 5), (2, 1), (3, 0)])
        # A row of choices, each of which is made on the way down.
        rows = []
        for state in range(30):
            rows.extend([(state, (state + 1,), (state + 1) ** 3), (state, (state + 1,), 0)])
        family = (31, (0,), tuple(rows) + ((30, (), 0),))
        curve = curve_of(family, tuple(range(1, 60, 2)))
        cubes = [(state + 1) ** 3 for state in range(30)]
        self.assertEqual([row[:2] for row in curve], [(many, sum(cubes[:30 - many])) for many in range(31)])
        for many, price, tree in curve:
            self.assertTrue(is_product(family, tree))
            self.assertEqual(point_of(family, range(1, 60, 2), tree), (many, price))

    def test_steep_and_flat_curves(self):
        # Chains of marked parts, each in the only slot of the part before.
        chain = tuple((state, (state + 1,), 0) for state in range(1, 20)) + ((20, (), 0),)
        flat = (21, (0,), ((0, (), 2), (0, (18,), 1), (0, (1,), 0)) + chain)
        marked = tuple(range(3, 23))
        self.assertEqual([row[:2] for row in curve_of(flat, marked)], [(0, 2), (3, 1), (20, 0)])
        steep = (21, (0,), ((0, (), 900), (0, (18,), 90), (0, (1,), 0)) + chain)
        self.assertEqual([row[:2] for row in curve_of(steep, marked)], [(0, 900), (3, 90), (20, 0)])
        # One more, and the middle one is on or above the line from (0, 34) to (20, 14).
        for price, corners in ((30, 3), (31, 2), (32, 2)):
            line = (21, (0,), ((0, (), 34), (0, (18,), price), (0, (1,), 14)) + chain)
            self.assertEqual(len(curve_of(line, marked)), corners)

    def test_prices_of_40_digits(self):
        large = 10 ** 40 - 1
        family = (1, (0,), ((0, (), large), (0, (), large - 1), (0, (), large)))
        self.assertEqual(curve_of(family, (1,)), ((0, large, (0,)), (1, large - 1, (1,))))
        self.assertEqual(curve_of(free_slots((large, large - 1)), (1, 3))[1][:2], (1, large - 1))

    def test_exactly_100_parts(self):
        row = row_of_100()
        curve = curve_of(row, (0, 5))
        self.assertEqual(curve, ((37, 0, cheapest(row)),))
        self.assertEqual(len(curve[0][2]), 100)

    def test_the_first_product_with_more_than_100_parts(self):
        row = row_of_101()
        self.check_count(101, row, (0,))
        short = (row[0], (0,), row[2] + ((0, (), 8),))
        # The corner (0, 8) with one part comes first, the corner of 101 parts behind it.
        self.check_count(101, short, (0,))
        long = (40, (0,), long_row()[2] + ((0, (), 8),))
        self.check_count(LONG_ROW_PARTS, long, (0,))
        self.assertEqual(curve_of((40, (0,), long_row(1)[2] + ((0, (), 8),)), (0,)), ((0, 8, (40,)),))

    def test_the_order_of_the_curve_decides(self):
        # Both corners have too many parts: the one without marked parts has 101, the other one far more.
        shift = 7
        rows = row_of_101()[2][:-1] + ((6, (), 1),)
        for plug, slots, _ in long_row()[2][:30]:
            rows += ((plug + shift, tuple(state + shift for state in slots), 0),)
        rows += ((shift + 30, (), 0), (0, (shift,), 0))
        family = (shift + 31, (0,), rows)
        self.check_count(101, family, (len(rows) - 1,))
        self.check_count(1 + (3 ** 31 - 1) // 2, family, tuple(range(7)))

    def test_numbers_of_marked_parts_beyond_all_bounds(self):
        rows = tuple((state, (state + 1,) * 3, 0) for state in range(38)) + ((38, (), 0),)
        family = (40, (39,), rows + ((39, (), 100), (39, (8,), 50), (39, (0,), 0)))
        self.check_count(1 + (3 ** 31 - 1) // 2, family, tuple(range(39)))
        # With the parts of one state marked, the numbers are 0, 3 ** 25 and 3 ** 33.
        self.check_count(1 + (3 ** 31 - 1) // 2, family, (33,))
        self.check_count(1 + (3 ** 39 - 1) // 2, family, ())

    def test_against_all_products_of_finite_families(self):
        chance = random.Random(61)
        lengths = {}
        for _ in range(600):
            family = finite_family_by_chance(chance, states=4, variants=10)
            marked = tuple(number for number in range(len(family[2])) if chance.random() < 0.5)
            # Marked variants are made cheap, so that there are trade-offs.
            cheap = tuple(
                (plug, slots, None if price is None else chance.randint(0, 1 if number in marked else 12))
                for number, (plug, slots, price) in enumerate(family[2])
            )
            for each in (family, family[:2] + (cheap,)):
                curve = curve_of(each, marked)
                self.assertEqual(curve, told_curve(each, marked, all_products(each, 15)))
                self.assertTrue(is_plain(curve))
                lengths[len(curve)] = lengths.get(len(curve), 0) + 1
        self.assertGreater(lengths[2], 100)
        self.assertGreater(lengths[3], 30)

    def test_against_products_of_families_with_infinitely_many(self):
        chance = random.Random(62)
        longer = 0
        for family in families_by_chance(300, states=3, variants=8, slots=1, high=6, seed=63):
            marked = tuple(number for number in range(len(family[2])) if chance.random() < 0.5)
            # With one slot at most for each variant, the products of corners have no more parts than there are states.
            curve = curve_of(family, marked)
            self.assertEqual(curve, told_curve(family, marked, all_products(family, 5)))
            longer += len(curve) > 1
        self.assertGreater(longer, 20)

    def test_useless_variants_make_no_difference(self):
        for family in families_by_chance(60, states=4, variants=9, seed=64):
            marked = tuple(range(0, len(family[2]), 2))
            self.assertEqual(curve_of(family, marked), curve_of(trimmed(family), marked))


class TestArgumentsAlone(unittest.TestCase):
    def test_one_after_another(self):
        check_independent(self, curve_of, (STANDS, (0, 7)), (STANDS, (6,)))
        check_independent(self, curve_of, (STEPS, (1, 3)), (FIXED, (1, 3)))


if __name__ == "__main__":
    unittest.main()
