"""Tests of slotwise/transfer.py: points 160 to 162, with 140 and 201."""

import random
import unittest

from slotwise.greatest import price_ceiling
from slotwise.least import least_weights
from slotwise.transfer import cost_of, is_ceiling, is_floor, larger_of, least_prices, margins_of, smaller_of
from slotwise.useful import filled_states, trimmed
from tests.helpers import (
    EMPTY_SLOTS, FIXED, FORKS, LONG_ROW_PARTS, NOTHING, STANDS, check_independent, families_by_chance,
    finite_family_by_chance, is_plain, long_row, trees_by_size,
)

# One variant with a slot of each kind, one missing one, one with its own plug in a slot.
MIXED = (3, (0,), ((0, (1, 2, 1), -4), (1, (), 5), (1, (), None), (2, (2,), 0), (2, (), -7)))


def table_by_chance(family, chance, low=-9, high=9):
    """A table for the family, mostly with prices."""
    return tuple(None if chance.random() < 0.25 else chance.randint(low, high) for _ in range(family[0]))


def told_costs(family, table):
    """For each variant its cost, exactly as point 160 tells."""
    costs = []
    for _, slots, price in family[2]:
        if price is not None:
            for state in slots:
                price = None if price is None or table[state] is None else price + table[state]
        costs.append(price)
    return costs


def told_floor(family, table, sign):
    """Whether the table is a floor, or with the sign -1 a ceiling, exactly as point 161 tells."""
    for cost, (plug, _, _) in zip(told_costs(family, table), family[2]):
        if cost is not None and (table[plug] is None or sign * table[plug] > sign * cost):
            return False
    return True


class TestCostOf(unittest.TestCase):
    def test_examples(self):
        self.assertEqual(cost_of(STANDS, (None, 6, None, None), 6), 10)
        self.assertEqual(margins_of(STANDS, (36, 6, 10, 1)), (0, 9, 12, 12, 17, 17, 0, 0, 5, 0))
        expected = (None, None, 12, None, 17, None, None, 0, None, None)
        self.assertEqual(margins_of(STANDS, (None, 6, None, None)), expected)

    def test_a_state_in_several_slots(self):
        self.assertEqual(cost_of(MIXED, (0, 10, 100), 0), 116)
        self.assertEqual(cost_of(FORKS, (4,), 0), 10)
        self.assertEqual(margins_of(FORKS, (4,)), (6, -3))
        thrice = (2, (), ((0, (1, 1, 1), 1), (0, (0, 1, 0), 1)))
        self.assertEqual(margins_of(thrice, (7, -2)), (-12, 6))

    def test_no_price_for_a_slot(self):
        for table in ((0, None, 1), (0, 1, None), (0, None, None), (None, None, 1)):
            self.assertIsNone(cost_of(MIXED, table, 0))
            self.assertIsNone(margins_of(MIXED, table)[0])

    def test_no_price_for_the_plug(self):
        self.assertEqual(cost_of(MIXED, (None, 1, 2), 0), 0)
        self.assertEqual(margins_of(MIXED, (None, 1, 2)), (None, 4, None, 0, -9))
        self.assertEqual(cost_of(MIXED, (None, None, None), 1), 5)
        self.assertEqual(cost_of(MIXED, (None, None, None), 4), -7)

    def test_missing_variants(self):
        self.assertIsNone(cost_of(MIXED, (0, 0, 0), 2))
        self.assertEqual(margins_of(MIXED, (0, 0, 0)), (-4, 5, None, 0, -7))

    def test_prices_below_0_and_of_100_digits(self):
        large = 10 ** 100 - 1
        self.assertEqual(margins_of(MIXED, (-large, large, -5)), (3 * large - 9, 5 - large, None, 0, -2))
        self.assertEqual(cost_of(MIXED, (0, -3, -5), 0), -15)

    def test_a_variant_that_has_its_own_plug_in_a_slot(self):
        self.assertEqual(margins_of(MIXED, (0, 0, 123))[3], 0)
        self.assertIsNone(margins_of(MIXED, (0, 0, None))[3])

    def test_no_variants(self):
        self.assertEqual(margins_of(NOTHING, (1, None, 2)), ())

    def test_against_the_words_of_the_document(self):
        chance = random.Random(41)
        for family in families_by_chance(200, states=4, variants=9, slots=3, low=-4, seed=42):
            table = table_by_chance(family, chance)
            costs = told_costs(family, table)
            self.assertEqual([cost_of(family, table, number) for number in range(len(family[2]))], costs)
            own = [table[plug] for plug, _, _ in family[2]]
            margins = [None if cost is None or price is None else cost - price for cost, price in zip(costs, own)]
            self.assertEqual(margins_of(family, table), tuple(margins))
            self.assertTrue(is_plain(margins_of(family, table)))


class TestFloorsAndCeilings(unittest.TestCase):
    def test_examples(self):
        self.assertIs(is_floor(STANDS, (36, 6, 6, -3)), True)
        self.assertIs(is_floor(STANDS, (36, 6, 11, 0)), False)
        self.assertIs(is_floor(STANDS, (None, None, None, None)), False)
        self.assertIs(is_ceiling(STANDS, (99, 50, 50, 1)), False)

    def test_just_at_the_cost_one_below_and_one_above(self):
        family = (2, (0,), ((0, (1,), 3), (1, (), 4)))
        for price, floor, ceiling in ((6, True, False), (7, True, True), (8, False, True)):
            self.assertIs(is_floor(family, (price, 4)), floor)
            self.assertIs(is_ceiling(family, (price, 4)), ceiling)
        for price, floor, ceiling in ((3, True, False), (4, True, True), (5, False, True)):
            self.assertIs(is_floor(family, (3 + price, price)), floor)
            self.assertIs(is_ceiling(family, (3 + price, price)), ceiling)

    def test_no_price_for_the_plug_of_a_variant_whose_cost_exists(self):
        family = (2, (0,), ((0, (1,), 3), (1, (), 4)))
        for table in ((None, 4), (None, -99), (None, 99), (7, None), (None, None)):
            self.assertIs(is_floor(family, table), False, table)
            self.assertIs(is_ceiling(family, table), False, table)

    def test_no_prices_at_all(self):
        for ask in (is_floor, is_ceiling):
            self.assertIs(ask(NOTHING, (None, None, None)), True)
            # Without a tree no variant without slots has a cost.
            self.assertIs(ask(EMPTY_SLOTS, (None, None)), True)
            self.assertIs(ask(FORKS, (None,)), False)

    def test_prices_of_states_that_are_not_filled(self):
        self.assertIs(is_floor(NOTHING, (5, None, -3)), True)
        self.assertIs(is_floor(EMPTY_SLOTS, (None, 4)), False)
        self.assertIs(is_floor(EMPTY_SLOTS, (6, 4)), True)
        self.assertIs(is_floor(EMPTY_SLOTS, (7, 4)), False)
        self.assertIs(is_floor(EMPTY_SLOTS, (4, 8)), False)

    def test_missing_variants_do_not_matter(self):
        family = (1, (0,), ((0, (), None), (0, (), 4)))
        self.assertIs(is_floor(family, (4,)), True)
        self.assertIs(is_floor((1, (0,), ((0, (), 3), (0, (), 4))), (4,)), False)
        self.assertIs(is_ceiling((1, (0,), ((0, (), None), (0, (), 4))), (4,)), True)
        self.assertIs(is_ceiling((1, (0,), ((0, (), 5), (0, (), 4))), (4,)), False)

    def test_cycles(self):
        for price in (-5, 1):
            self.assertIs(is_floor((1, (0,), ((0, (0,), 0), (0, (), 1))), (price,)), True)
            self.assertIs(is_floor((1, (0,), ((0, (0,), -1), (0, (), 1))), (price,)), False)
            self.assertIs(is_ceiling((1, (0,), ((0, (0,), 1), (0, (), 1))), (price,)), False)
        self.assertIs(is_floor(FORKS, (-2,)), True)
        self.assertIs(is_floor(FORKS, (-3,)), False)
        self.assertIs(is_ceiling((1, (0,), ((0, (0,), -1), (0, (), 1))), (1,)), True)

    def test_against_the_words_of_the_document(self):
        chance = random.Random(43)
        floors = ceilings = 0
        for family in families_by_chance(600, states=3, variants=4, slots=2, low=-3, seed=44):
            for _ in range(5):
                table = table_by_chance(family, chance, -6, 9)
                floor, ceiling = told_floor(family, table, 1), told_floor(family, table, -1)
                self.assertIs(is_floor(family, table), floor)
                self.assertIs(is_ceiling(family, table), ceiling)
                floors += floor and bool(family[2])
                ceilings += ceiling and bool(family[2])
        self.assertGreater(floors, 100)
        self.assertGreater(ceilings, 100)

    def test_no_tree_costs_less_than_a_floor_or_more_than_a_ceiling(self):
        chance = random.Random(45)
        some = 0
        for family in families_by_chance(500, states=2, variants=4, slots=2, low=-3, high=3, seed=46):
            trees = trees_by_size(family, 5)
            for _ in range(4):
                table = table_by_chance(family, chance, -9, 9)
                for price, row in zip(table, trees):
                    costs = [sum(family[2][number][2] for number in tree) for part in row for tree in part]
                    if costs and is_floor(family, table):
                        self.assertLessEqual(price, min(costs))
                        some += 1
                    if costs and is_ceiling(family, table):
                        self.assertGreaterEqual(price, max(costs))
                        some += 1
        self.assertGreater(some, 200)


class TestLeastPrices(unittest.TestCase):
    def test_examples(self):
        self.assertEqual(least_prices(STANDS), (36, 6, 10, 1))

    def test_states_without_trees(self):
        self.assertEqual(least_prices(NOTHING), (None, None, None))
        self.assertEqual(least_prices(EMPTY_SLOTS), (None, None))
        self.assertEqual(least_prices((3, (), ((2, (), 0), (1, (0,), 3)))), (None, None, 0))

    def test_more_than_10_to_18_parts(self):
        self.assertEqual(least_prices(long_row(2))[0], 2 * LONG_ROW_PARTS)

    def test_against_all_trees(self):
        chance = random.Random(47)
        for _ in range(150):
            family = finite_family_by_chance(chance)
            expected = [
                min((sum(family[2][number][2] for number in tree) for part in row for tree in part), default=None)
                for row in trees_by_size(family, 15)
            ]
            self.assertEqual(least_prices(family), tuple(expected))

    def test_it_is_a_floor_and_none_any_more_if_a_price_is_raised(self):
        raised = 0
        for family in families_by_chance(200, states=4, variants=10, seed=48):
            table = least_prices(family)
            self.assertIs(is_floor(family, table), True)
            self.assertEqual([price is None for price in table], [weight is None for weight in least_weights(family)])
            had = tuple(state for state, price in enumerate(table) if price is not None)
            self.assertEqual(had, filled_states(family))
            for state in filled_states(family):
                higher = table[:state] + (table[state] + 1,) + table[state + 1:]
                self.assertIs(is_floor(family, higher), False)
                self.assertIs(is_floor(family, table[:state] + (None,) + table[state + 1:]), False)
                raised += 1
        self.assertGreater(raised, 200)


class TestLargerAndSmaller(unittest.TestCase):
    def test_examples(self):
        self.assertEqual(larger_of((5, None, 2), (3, 4, 7)), (5, None, 7))

    def test_prices_in_one_table_in_both_or_in_none(self):
        first, second = (5, None, None, -2, 0, 3), (-6, 1, None, None, 0, 4)
        self.assertEqual(larger_of(first, second), (5, None, None, None, 0, 4))
        self.assertEqual(smaller_of(first, second), (-6, None, None, None, 0, 3))
        self.assertEqual(larger_of(second, first), larger_of(first, second))
        self.assertEqual(smaller_of(second, first), smaller_of(first, second))

    def test_large_prices(self):
        large = 10 ** 100 - 1
        self.assertEqual(larger_of((large, -large), (large - 1, 1 - large)), (large, 1 - large))
        self.assertEqual(smaller_of((large, -large), (large - 1, 1 - large)), (large - 1, -large))

    def test_the_larger_one_of_two_floors_and_the_smaller_one_of_two_ceilings(self):
        self.assertEqual(larger_of((36, 6, 6, -3), (30, 5, 10, 1)), (36, 6, 10, 1))
        self.assertIs(is_floor(STANDS, larger_of((36, 6, 6, -3), (30, 5, 10, 1))), True)
        self.assertIs(is_ceiling(FIXED, smaller_of((50, 9, 15, 1), (53, 6, 18, 4))), True)


class TestPriceCeiling(unittest.TestCase):
    def test_it_is_a_ceiling_of_the_trimmed_family_and_none_if_a_price_is_lowered(self):
        self.assertIs(is_ceiling(FIXED, price_ceiling(FIXED)), False)
        self.assertIs(is_ceiling(trimmed(FIXED), price_ceiling(FIXED)), True)
        lowered = 0
        for family in families_by_chance(300, states=3, variants=7, low=-4, high=2, seed=49):
            table = price_ceiling(family)
            if table is not None:
                self.assertIs(is_ceiling(trimmed(family), table), True)
                for state, price in enumerate(table):
                    if price is not None:
                        lower = table[:state] + (price - 1,) + table[state + 1:]
                        self.assertIs(is_ceiling(trimmed(family), lower), False)
                        lowered += 1
        self.assertGreater(lowered, 100)


class TestArgumentsAlone(unittest.TestCase):
    def test_one_after_another(self):
        table = (36, 6, 10, 1)
        check_independent(self, cost_of, (STANDS, table, 0), (FIXED, table, 4))
        check_independent(self, margins_of, (STANDS, table), (STANDS, table[::-1]))
        check_independent(self, is_floor, (STANDS, table), (STANDS, (37, 6, 10, 1)))
        check_independent(self, is_ceiling, (STANDS, table), (FIXED, (50, 6, 15, 1)))
        check_independent(self, least_prices, (FORKS,), (STANDS,))
        check_independent(self, larger_of, ((1, 2), (2, 1)), ((1, 2), (1, 1)))
        check_independent(self, smaller_of, ((1, 2), (2, 1)), ((1, 2), (1, 2)))


if __name__ == "__main__":
    unittest.main()
