"""Tests of slotwise/least.py: points 120 to 123, with 103 and 105."""

import unittest

from slotwise.errors import TooManyParts
from slotwise.least import cheapest, first_tree, least_round, least_weights, settlement
from tests.helpers import EMPTY_SLOTS, FORKS, LONG_ROW_PARTS, NOTHING, STANDS
from tests.helpers import check_independent, families_by_chance, in_order, is_plain, long_row, rank
from tests.helpers import row_family, row_of_100, row_of_101, trees_by_size


def weights_in_rounds(family):
    """The weights after as many rounds as there are states."""
    weights = (None,) * family[0]
    for _ in range(family[0]):
        weights = least_round(family, weights)
    return weights


def trees_in_order(family, most):
    """For each state all trees with at most `most` parts, in the order of trees."""
    found = trees_by_size(family, most)
    return [in_order(family, [tree for trees in row for tree in trees]) for row in found]


class TestLeastRound(unittest.TestCase):
    def test_examples(self):
        self.assertEqual(least_round(STANDS, (None, (6, 1), None, None)), ((36, 2), (6, 1), (10, 2), (1, 1)))
        self.assertEqual(least_round(STANDS, (None,) * 4), (None, (6, 1), (15, 1), (1, 1)))

    def test_a_slot_without_a_weight(self):
        self.assertEqual(least_round(EMPTY_SLOTS, (None, None)), (None, None))
        self.assertEqual(least_round(EMPTY_SLOTS, (None, (4, 1))), ((6, 2), None))
        family = (2, (0,), ((0, (1, 0), 2), (0, (1, 1), 9)))
        self.assertEqual(least_round(family, (None, (1, 1))), ((11, 3), None))

    def test_slots_with_the_same_state_several_times(self):
        family = (2, (0,), ((0, (1, 1, 1), 2), (0, (1, 0, 1), 2), (1, (), 4)))
        self.assertEqual(least_round(family, ((7, 2), (5, 3))), ((17, 10), (4, 1)))
        self.assertEqual(least_round(family, ((1, 9), (5, 3))), ((13, 16), (4, 1)))

    def test_equal_prices_are_decided_by_the_number_of_parts(self):
        family = (2, (0,), ((0, (1,), 0), (0, (), 3)))
        self.assertEqual(least_round(family, (None, (3, 1))), ((3, 1), None))
        self.assertEqual(least_round(family, (None, (2, 50))), ((2, 51), None))

    def test_weights_of_100_digits(self):
        large = 10 ** 100 - 1
        family = (2, (0,), ((0, (1, 1), 1), (1, (1,), 0)))
        self.assertEqual(least_round(family, (None, (large, large))), ((2 * large + 1, 2 * large + 1), (large, large + 1)))

    def test_the_previous_weight_of_a_state_is_not_kept(self):
        self.assertEqual(least_round(STANDS, ((0, 0), None, None, (0, 0))), (None, (6, 1), (15, 1), (1, 1)))

    def test_missing_variants(self):
        self.assertEqual(least_round((1, (), ((0, (), None),)), (None,)), (None,))
        self.assertEqual(least_round((1, (), ((0, (), None), (0, (), 0))), (None,)), ((0, 1),))


class TestLeastWeights(unittest.TestCase):
    def test_examples(self):
        self.assertEqual(least_weights(STANDS), ((36, 2), (6, 1), (10, 2), (1, 1)))
        self.assertEqual(settlement(STANDS), ((3, 9), (1, 7), (2, 6), (0, 0)))

    def test_states_without_a_tree(self):
        self.assertEqual(least_weights(EMPTY_SLOTS), (None, None))
        self.assertEqual(settlement(EMPTY_SLOTS), ())
        self.assertEqual(least_weights(NOTHING), (None, None, None))
        self.assertEqual(settlement(NOTHING), ())

    def test_rounds_lead_to_the_least_weights(self):
        for family in families_by_chance(200, states=5, variants=12, slots=3, seed=2):
            weights = least_weights(family)
            self.assertEqual(weights_in_rounds(family), weights)
            self.assertEqual(least_round(family, weights), weights)
            self.assertTrue(is_plain(weights))

    def test_rounds_on_rows(self):
        for needs in ((1,) * 39, (2, 3) * 15, (3,) * 39):
            family = row_family(needs, price=7)
            self.assertEqual(weights_in_rounds(family), least_weights(family))

    def test_against_all_trees(self):
        for family in families_by_chance(120, slots=2, seed=3):
            # No least tree of 3 states with at most 2 slots for each variant has more than 7 parts.
            for weight, trees in zip(least_weights(family), trees_in_order(family, 7)):
                self.assertEqual(weight, rank(family, trees[0])[:2] if trees else None)

    def test_prices_of_40_digits(self):
        price = 10 ** 40 - 1
        self.assertEqual(least_weights(row_family((3, 3), price)), ((13 * price, 13), (4 * price, 4), (price, 1)))

    def test_long_row(self):
        weights = least_weights(long_row(price=2))
        self.assertEqual(weights[0], (2 * LONG_ROW_PARTS, LONG_ROW_PARTS))
        self.assertEqual(weights[39], (2, 1))


class TestSettlement(unittest.TestCase):
    def test_equal_weights_are_ordered_by_state(self):
        family = (4, (0,), ((3, (), 2), (1, (), 2), (2, (), 1), (0, (), 2)))
        self.assertEqual(settlement(family), ((2, 2), (0, 3), (1, 1), (3, 0)))

    def test_fewer_parts_come_first_at_equal_prices(self):
        family = (3, (0,), ((0, (1, 1), 0), (1, (), 0), (2, (1,), 0)))
        self.assertEqual(settlement(family), ((1, 1), (2, 2), (0, 0)))

    def test_the_least_number_at_equal_weights_of_variants(self):
        family = (2, (0,), ((0, (1,), 3), (0, (1,), 2), (1, (), None), (1, (), 2), (0, (1,), 2), (1, (), 2)))
        self.assertEqual(settlement(family), ((1, 3), (0, 1)))

    def test_first_trees_are_built_from_left_to_right(self):
        for family in families_by_chance(80, states=4, variants=10, seed=4):
            built = {}
            for state, number in settlement(family):
                tree = (number,)
                for other in family[2][number][1]:
                    tree += built[other]
                built[state] = tree
            for state in range(family[0]):
                self.assertEqual(first_tree(family, state), built.get(state))


class TestFirstTrees(unittest.TestCase):
    def test_examples(self):
        self.assertEqual(first_tree(STANDS, 2), (6, 7))
        self.assertEqual(cheapest(STANDS), (0, 7))

    def test_nothing(self):
        self.assertIsNone(first_tree(EMPTY_SLOTS, 0))
        self.assertIsNone(cheapest(EMPTY_SLOTS))
        self.assertIsNone(cheapest(NOTHING))
        self.assertIsNone(cheapest((4, (), STANDS[2])))
        self.assertEqual(first_tree((4, (), STANDS[2]), 0), (0, 7))

    def test_ties_of_price(self):
        family = (2, (0,), ((0, (1,), 1), (0, (), 2), (1, (), 1)))
        self.assertEqual(cheapest(family), (1,))
        self.assertEqual(first_tree(family, 0), (1,))

    def test_ties_of_parts(self):
        family = (2, (0,), ((0, (1,), 1), (0, (1,), 1), (1, (), 1), (1, (), 1)))
        self.assertEqual(cheapest(family), (0, 2))

    def test_ties_of_two_roots(self):
        family = (3, (0, 1), ((1, (2,), 1), (0, (2,), 1), (2, (), 3)))
        self.assertEqual(cheapest(family), (0, 2))
        self.assertEqual(cheapest((3, (0, 1), ((1, (), 5), (0, (2,), 1), (2, (), 3)))), (1, 2))
        self.assertEqual(cheapest((3, (0, 1), ((0, (2,), 1), (1, (), 4), (2, (), 3)))), (1,))

    def test_a_part_can_be_dear_if_it_needs_little(self):
        family = (2, (0,), ((0, (1, 1, 1), 0), (0, (), 5), (1, (), 2)))
        self.assertEqual(cheapest(family), (1,))
        family = (2, (0,), ((0, (1, 1, 1), 0), (0, (), 7), (1, (), 2)))
        self.assertEqual(cheapest(family), (0, 2, 2, 2))

    def test_against_all_trees(self):
        for family in families_by_chance(150, slots=2, high=2, seed=6):
            ordered = trees_in_order(family, 7)
            for state, trees in enumerate(ordered):
                self.assertEqual(first_tree(family, state), trees[0] if trees else None)
            products = [ordered[root][0] for root in family[1] if ordered[root]]
            self.assertEqual(cheapest(family), in_order(family, products)[0] if products else None)

    def test_exactly_100_parts(self):
        tree = cheapest(row_of_100())
        self.assertEqual(len(tree), 100)
        self.assertEqual(first_tree(row_of_100(), 0), tree)

    def test_101_parts(self):
        for ask in (lambda: cheapest(row_of_101()), lambda: first_tree(row_of_101(), 0)):
            with self.assertRaises(TooManyParts) as caught:
                ask()
            self.assertEqual(caught.exception.count, 101)
        self.assertEqual(len(first_tree(row_of_101(), 1)), 50)

    def test_more_than_10_to_18_parts(self):
        self.assertGreater(LONG_ROW_PARTS, 10 ** 18)
        for ask in (lambda: cheapest(long_row()), lambda: first_tree(long_row(), 0)):
            with self.assertRaises(TooManyParts) as caught:
                ask()
            self.assertEqual(caught.exception.count, LONG_ROW_PARTS)
        self.assertEqual(len(first_tree(long_row(), 36)), 40)

    def test_a_dear_small_product_beats_a_large_one_only_by_price(self):
        variants = long_row()[2] + ((0, (), 1),)
        with self.assertRaises(TooManyParts) as caught:
            cheapest((40, (0,), variants))
        self.assertEqual(caught.exception.count, LONG_ROW_PARTS)
        self.assertEqual(cheapest((40, (0,), long_row(price=1)[2] + ((0, (), LONG_ROW_PARTS),))), (40,))


class TestArgumentsAlone(unittest.TestCase):
    def test_one_family_after_another(self):
        for ask in (least_weights, settlement, cheapest):
            check_independent(self, ask, (STANDS,), (FORKS,))
        check_independent(self, first_tree, (STANDS, 0), (FORKS, 0))
        check_independent(self, least_round, (STANDS, (None,) * 4), (FORKS, ((2, 1),)))


if __name__ == "__main__":
    unittest.main()
