"""Tests of slotwise/greatest.py: points 200 to 202, with 103, 105, 120, 140 and 160."""

import unittest

from slotwise.errors import TooManyParts
from slotwise.greatest import dearest_tree, greatest_prices, greatest_round, price_ceiling, price_range
from slotwise.least import least_weights
from slotwise.useful import useful_variants
from tests.helpers import EMPTY_SLOTS, FIXED, FORKS, LONG_ROW_PARTS, NOTHING, STANDS
from tests.helpers import check_independent, families_by_chance, in_order, is_plain, long_row, row_family
from tests.helpers import row_of_100, row_of_101, trees_by_size

UNBOUNDED = "unbounded"
# State 1 has a cycle that costs 0, state 2 one that costs less, state 3 one that costs more.
CYCLES = (5, (0,), (
    (0, (1, 2), -7), (1, (1,), 0), (1, (), -3), (2, (4,), 5), (4, (2,), -6), (2, (), 2), (3, (3,), 1), (3, (), -9),
))


def as_number(price):
    """A number by which prices of rounds are compared."""
    if price is None:
        return -10 ** 200
    return 10 ** 200 if price == UNBOUNDED else price


def prices_in_rounds(family):
    """The greatest prices exactly as point 201 tells."""
    prices = (None,) * family[0]
    for _ in range(family[0]):
        prices = greatest_round(family, prices)
    after = greatest_round(family, prices)
    found = [UNBOUNDED if as_number(new) > as_number(old) else old for old, new in zip(prices, after)]
    for _ in range(family[0]):
        for plug, slots, price in family[2]:
            inside = [found[state] for state in slots]
            if price is not None and None not in inside and UNBOUNDED in inside:
                found[plug] = UNBOUNDED
    return tuple(found)


class TestGreatestRound(unittest.TestCase):
    def test_examples(self):
        self.assertEqual(greatest_round(FIXED, (None, 6, "unbounded", None)), ("unbounded", 6, 15, 1))

    def test_from_nothing(self):
        self.assertEqual(greatest_round(FIXED, (None,) * 4), (None, 6, 15, 1))
        self.assertEqual(greatest_round(EMPTY_SLOTS, (None, None)), (None, None))
        self.assertEqual(greatest_round(NOTHING, (1, None, UNBOUNDED)), (None, None, None))

    def test_no_price_is_stronger_than_unbounded_in_a_variant(self):
        family = (3, (), ((0, (1, 2), 1), (0, (2, 1), 1)))
        self.assertEqual(greatest_round(family, (None, UNBOUNDED, None)), (None, None, None))
        self.assertEqual(greatest_round(family, (None, UNBOUNDED, -5)), (UNBOUNDED, None, None))

    def test_unbounded_is_greater_than_every_integer(self):
        family = (2, (), ((0, (1,), -10 ** 39), (0, (), 10 ** 40 - 1), (0, (0,), 5)))
        self.assertEqual(greatest_round(family, (None, UNBOUNDED)), (UNBOUNDED, None))
        self.assertEqual(greatest_round(family, (10 ** 99, 0)), (10 ** 99 + 5, None))

    def test_integers_of_100_digits(self):
        large = 10 ** 100 - 1
        family = (2, (), ((0, (1, 1), -1), (1, (0,), 3)))
        self.assertEqual(greatest_round(family, (-large, large)), (2 * large - 1, 3 - large))

    def test_slots_with_the_same_state_several_times(self):
        family = (2, (), ((0, (1, 1, 1), 2), (0, (1, 0, 1), 2)))
        self.assertEqual(greatest_round(family, (9, 5)), (21, None))
        self.assertEqual(greatest_round(family, (2, 5)), (17, None))

    def test_missing_variants_and_the_price_before(self):
        family = (2, (), ((0, (), None), (1, (), -4), (1, (), None)))
        self.assertEqual(greatest_round(family, (7, 7)), (None, -4))


class TestGreatestPrices(unittest.TestCase):
    def test_examples(self):
        self.assertEqual(greatest_prices(STANDS), ("unbounded", "unbounded", "unbounded", 1))
        self.assertEqual(greatest_prices(FIXED), (50, 6, 15, 1))

    def test_states_that_are_not_filled(self):
        self.assertEqual(greatest_prices(EMPTY_SLOTS), (None, None))
        self.assertEqual(greatest_prices(NOTHING), (None, None, None))

    def test_cycles(self):
        self.assertEqual(greatest_prices(CYCLES), (-8, -3, 2, UNBOUNDED, -4))
        self.assertEqual(greatest_prices(FORKS), (UNBOUNDED,))
        self.assertEqual(greatest_prices((1, (0,), ((0, (0, 0), 2), (0, (), -2)))), (-2,))
        self.assertEqual(greatest_prices((1, (0,), ((0, (0, 0), 3), (0, (), -2)))), (UNBOUNDED,))

    def test_a_cycle_that_costs_more_only_by_what_is_beside_it(self):
        family = (3, (0,), ((0, (0, 1), -5), (0, (), 0), (1, (2,), 3), (2, (), 2)))
        self.assertEqual(greatest_prices(family), (0, 5, 2))
        self.assertEqual(greatest_prices(family[:2] + (family[2][:3] + ((2, (), 3),),)), (UNBOUNDED, 6, 3))

    def test_unbounded_prices_need_a_variant_that_can_be_filled(self):
        family = (4, (0,), ((0, (1, 2), 1), (1, (1,), 1), (1, (), 1), (0, (), 4), (3, (1, 1), -9)))
        self.assertEqual(greatest_prices(family), (4, UNBOUNDED, None, UNBOUNDED))

    def test_long_cycles(self):
        ring = tuple((state, ((state + 1) % 40,), 1 if state == 39 else 0) for state in range(40))
        self.assertEqual(greatest_prices((40, (0,), ring)), (None,) * 40)
        self.assertEqual(greatest_prices((40, (0,), ring + ((20, (), 0),))), (UNBOUNDED,) * 40)
        level = ring[:39] + ((39, (0,), 0), (20, (), 7))
        self.assertEqual(greatest_prices((40, (0,), level)), (7,) * 40)

    def test_long_row(self):
        prices = greatest_prices(long_row(price=3))
        self.assertEqual((prices[0], prices[39]), (3 * LONG_ROW_PARTS, 3))

    def test_against_rounds(self):
        unbounded = 0
        for family in families_by_chance(400, states=5, variants=12, slots=3, low=-4, high=3, seed=13):
            prices = greatest_prices(family)
            self.assertEqual(prices, prices_in_rounds(family))
            self.assertTrue(is_plain(prices))
            unbounded += UNBOUNDED in prices and any(isinstance(price, int) for price in prices)
        self.assertGreater(unbounded, 10)

    def test_against_all_trees(self):
        for family in families_by_chance(120, low=-4, high=2, seed=14):
            trees = trees_by_size(family, 7)
            for price, row in zip(greatest_prices(family), trees):
                prices = [sum(family[2][number][2] for number in tree) for part in row for tree in part]
                if price != UNBOUNDED:
                    self.assertEqual(price, max(prices, default=None))
                else:
                    self.assertTrue(prices)


class TestDearestTree(unittest.TestCase):
    def test_examples(self):
        self.assertEqual(dearest_tree(FIXED, 0), (1, 4))

    def test_none(self):
        self.assertIsNone(dearest_tree(STANDS, 0))
        self.assertIsNone(dearest_tree(EMPTY_SLOTS, 0))
        self.assertIsNone(dearest_tree(NOTHING, 2))
        self.assertEqual(dearest_tree(STANDS, 3), (9,))

    def test_cycles_that_cost_0_or_less(self):
        self.assertEqual(dearest_tree(CYCLES, 0), (0, 2, 5))
        self.assertEqual(dearest_tree(CYCLES, 1), (2,))
        self.assertEqual(dearest_tree(CYCLES, 4), (4, 5))
        self.assertIsNone(dearest_tree(CYCLES, 3))

    def test_ties(self):
        family = (2, (0,), ((0, (1, 1), -1), (0, (1,), 1), (0, (1,), 1), (1, (), 2), (1, (), 2), (0, (), None)))
        self.assertEqual(dearest_tree(family, 0), (1, 3))
        family = (2, (0,), ((0, (1, 1), -1), (0, (1,), 1), (0, (), 3), (1, (), 2), (1, (), 2)))
        self.assertEqual(dearest_tree(family, 0), (2,))
        family = (3, (0,), ((0, (2, 1), 0), (0, (1, 2), 0), (1, (), 2), (2, (), 2), (2, (), 2)))
        self.assertEqual(dearest_tree(family, 0), (0, 3, 2))

    def test_prices_below_0(self):
        family = (2, (0,), ((0, (1,), -5), (0, (1,), -4), (1, (), -3), (1, (), -2), (0, (), -6)))
        self.assertEqual(dearest_tree(family, 0), (4,))
        self.assertEqual(dearest_tree(family, 1), (3,))

    def test_100_and_101_parts(self):
        self.assertEqual(len(dearest_tree(row_of_100(), 0)), 100)
        with self.assertRaises(TooManyParts) as caught:
            dearest_tree(row_of_101(), 0)
        self.assertEqual(caught.exception.count, 101)
        self.assertEqual(len(dearest_tree(row_of_101(), 1)), 50)

    def test_more_than_10_to_18_parts(self):
        for price in (-3, 0, 3):
            with self.assertRaises(TooManyParts) as caught:
                dearest_tree(long_row(price), 0)
            self.assertEqual(caught.exception.count, LONG_ROW_PARTS)
        with_leaf = (40, (0,), long_row(price=-1)[2] + ((0, (), -2),))
        self.assertEqual(dearest_tree(with_leaf, 0), (40,))

    def test_against_all_trees(self):
        for family in families_by_chance(150, low=-3, high=2, seed=15):
            trees = trees_by_size(family, 7)
            for state, price in enumerate(greatest_prices(family)):
                dearest = dearest_tree(family, state)
                if price is None or price == UNBOUNDED:
                    self.assertIsNone(dearest)
                else:
                    row = [tree for part in trees[state] for tree in part]
                    equal = [tree for tree in row if sum(family[2][number][2] for number in tree) == price]
                    self.assertEqual(dearest, in_order(family, equal)[0])


class TestPriceRange(unittest.TestCase):
    def test_examples(self):
        self.assertEqual(price_range(FIXED), (36, 50))
        self.assertEqual(price_range(STANDS), (36, None))

    def test_no_product(self):
        self.assertIsNone(price_range(EMPTY_SLOTS))
        self.assertIsNone(price_range(NOTHING))
        self.assertIsNone(price_range((4, (), STANDS[2])))

    def test_unbounded_at_a_state_that_no_product_has(self):
        self.assertEqual(price_range((4, (3,), STANDS[2])), (1, 1))
        family = (3, (0,), ((0, (), 4), (0, (1, 2), 2), (1, (1,), 1), (1, (), 1)))
        self.assertEqual(price_range(family), (4, 4))

    def test_several_roots(self):
        self.assertEqual(price_range((4, (1, 2, 3), FIXED[2])), (1, 15))
        self.assertEqual(price_range((4, (2, 3), STANDS[2])), (1, None))
        self.assertEqual(price_range((2, (0, 1), EMPTY_SLOTS[2][:2] + ((1, (), 2),))), (2, None))
        self.assertEqual(price_range((3, (0, 1), ((1, (), 2), (0, (2,), 1)))), (2, 2))

    def test_a_cycle_that_costs_0(self):
        self.assertEqual(price_range((1, (0,), ((0, (0,), 0), (0, (), 3), (0, (), 8)))), (3, 8))

    def test_against_weights_and_greatest_prices(self):
        for family in families_by_chance(80, seed=16):
            filled = [root for root in family[1] if least_weights(family)[root] is not None]
            if not filled:
                self.assertIsNone(price_range(family))
                continue
            prices = [greatest_prices(family)[root] for root in filled]
            greatest = None if UNBOUNDED in prices else max(prices)
            self.assertEqual(price_range(family), (min(least_weights(family)[root][0] for root in filled), greatest))


class TestPriceCeiling(unittest.TestCase):
    def test_examples(self):
        self.assertEqual(price_ceiling(FIXED), (50, 6, 15, None))

    def test_unbounded_prices(self):
        self.assertIsNone(price_ceiling(STANDS))
        self.assertIsNone(price_ceiling((4, (2, 3), STANDS[2])))

    def test_no_product(self):
        self.assertEqual(price_ceiling(EMPTY_SLOTS), (None, None))
        self.assertEqual(price_ceiling(NOTHING), (None, None, None))
        self.assertEqual(price_ceiling((4, (), STANDS[2])), (None,) * 4)

    def test_unbounded_at_a_state_that_no_product_has(self):
        self.assertEqual(price_ceiling((4, (3,), STANDS[2])), (None, None, None, 1))

    def test_prices_below_0(self):
        self.assertEqual(price_ceiling(CYCLES), (-8, -3, 2, None, -4))
        self.assertEqual(price_ceiling((5, (3,), CYCLES[2])), None)

    def test_a_filled_state_that_is_only_beside_an_empty_one(self):
        family = (4, (0,), ((0, (1, 2), 5), (0, (3,), 1), (1, (), 4), (3, (), 2)))
        self.assertEqual(price_ceiling(family), (3, None, None, 2))

    def test_against_greatest_prices(self):
        bounded = 0
        for family in families_by_chance(150, low=-3, high=1, seed=17):
            prices = greatest_prices(family)
            had = {family[2][number][0] for number in useful_variants(family)}
            table = tuple(price if state in had else None for state, price in enumerate(prices))
            unbounded = UNBOUNDED in [prices[root] for root in family[1]]
            self.assertEqual(price_ceiling(family), None if unbounded else table)
            bounded += not unbounded and bool(had)
        self.assertGreater(bounded, 20)


class TestArgumentsAlone(unittest.TestCase):
    def test_one_family_after_another(self):
        for ask in (greatest_prices, price_range, price_ceiling):
            check_independent(self, ask, (FIXED,), (STANDS,))
        check_independent(self, dearest_tree, (FIXED, 0), (row_family((1, 2)), 0))
        check_independent(self, greatest_round, (FIXED, (None,) * 4), (FORKS, (UNBOUNDED,)))


if __name__ == "__main__":
    unittest.main()
