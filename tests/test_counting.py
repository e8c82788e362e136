"""Tests of slotwise/counting.py: point 240, with 221."""

import unittest

from slotwise.counting import counts_by_size, product_count, tree_count
from slotwise.errors import TooManyTrees
from slotwise.repetition import find_repetition
from tests.helpers import EMPTY_SLOTS, FIXED, FORKS, NOTHING, STANDS
from tests.helpers import check_independent, families_by_chance, is_plain, long_row, trees_by_size


def powers(exponents, extra=0):
    """A family without infinitely many trees that has as many products as the power of 10, and `extra` more."""
    variants = []
    for state in range(exponents):
        variants.extend([(state, (state + 1,), 0)] * 10)
    variants.append((exponents, (), 0))
    variants.extend([(0, (exponents,), 0)] * extra)
    return (exponents + 1, (0,), tuple(variants))


def with_prices_0(family):
    """The family with the price 0 for all variants that are not missing."""
    variants = tuple((plug, slots, None if price is None else 0) for plug, slots, price in family[2])
    return (family[0], family[1], variants)


def leads_to_cycle(family, trees, start):
    """Whether a tree at the start has a part inside another part with the same state."""
    pairs = {
        (plug, state) for plug, slots, price in family[2] for state in slots
        if price is not None and all(any(trees[other]) for other in slots)
    }
    for _ in range(family[0]):
        pairs |= {(first, last) for first, middle in pairs for other, last in pairs if middle == other}
    return any(state == other and (state == start or (start, state) in pairs) for state, other in pairs)


class TestCountsBySize(unittest.TestCase):
    def test_examples(self):
        self.assertEqual(counts_by_size(FORKS, 0, 9), (1, 0, 1, 0, 2, 0, 5, 0, 14))
        self.assertEqual(counts_by_size(STANDS, 0, 5), (0, 2, 5, 12, 28))

    def test_up_to_20_parts(self):
        counts = counts_by_size(FORKS, 0, 20)
        catalan = (1, 1, 2, 5, 14, 42, 132, 429, 1430, 4862)
        self.assertEqual(counts, tuple(number for pair in zip(catalan, (0,) * 10) for number in pair))
        threes = (1, (), ((0, (0, 0, 0), -2), (0, (), 1)))
        self.assertEqual(counts_by_size(threes, 0, 20)[::3], (1, 1, 3, 12, 55, 273, 1428))

    def test_one_part(self):
        self.assertEqual(counts_by_size(STANDS, 0, 1), (0,))
        self.assertEqual(counts_by_size(STANDS, 1, 1), (1,))

    def test_no_trees(self):
        self.assertEqual(counts_by_size(NOTHING, 2, 4), (0, 0, 0, 0))
        self.assertEqual(counts_by_size(EMPTY_SLOTS, 0, 20), (0,) * 20)

    def test_variants_with_equal_triples_are_different(self):
        family = (2, (0,), ((0, (1, 1), 0), (0, (1, 1), 0), (1, (), 3), (1, (), 3), (1, (), None)))
        self.assertEqual(counts_by_size(family, 0, 4), (0, 0, 8, 0))

    def test_many_variants(self):
        family = (1, (0,), ((0, (0, 0, 0), 0),) * 300 + ((0, (), 0),) * 300)
        self.assertEqual(counts_by_size(family, 0, 7), (300, 0, 0, 300 ** 4, 0, 0, 3 * 300 ** 7))

    def test_against_all_trees(self):
        for family in families_by_chance(60, slots=3, low=-3, seed=10):
            trees = trees_by_size(family, 7)
            for state in range(family[0]):
                counts = counts_by_size(family, state, 7)
                self.assertEqual(counts, tuple(len(row) for row in trees[state][1:]))
                self.assertTrue(is_plain(counts))


class TestTreeCount(unittest.TestCase):
    def test_examples(self):
        self.assertIsNone(product_count(FORKS))
        self.assertEqual(product_count(FIXED), 3)
        self.assertEqual(tree_count(FIXED, 2), 2)

    def test_none_at_all(self):
        self.assertEqual(tree_count(EMPTY_SLOTS, 0), 0)
        self.assertEqual(product_count(EMPTY_SLOTS), 0)
        self.assertEqual(product_count(NOTHING), 0)
        self.assertEqual(product_count((4, (), STANDS[2])), 0)
        self.assertEqual(tree_count((2, (0,), ((0, (0,), 1), (0, (1,), 1), (1, (1,), 1))), 0), 0)

    def test_infinitely_many(self):
        for state in range(3):
            self.assertIsNone(tree_count(STANDS, state))
        self.assertEqual(tree_count(STANDS, 3), 1)
        self.assertIsNone(product_count(STANDS))

    def test_only_what_the_state_needs_matters(self):
        self.assertEqual(product_count((4, (3,), STANDS[2])), 1)
        self.assertIsNone(product_count((4, (1, 3), STANDS[2])))
        self.assertIsNone(tree_count((4, (), STANDS[2]), 0))

    def test_a_cycle_that_cannot_be_filled(self):
        family = (3, (0,), ((0, (0, 1), 1), (1, (1,), 0), (0, (), 1), (0, (), None), (0, (2, 2), 1), (2, (), 1), (2, (), 1)))
        self.assertEqual(tree_count(family, 0), 5)

    def test_exactly_10_to_30(self):
        family = powers(30)
        self.assertEqual(product_count(family), 10 ** 30)
        self.assertEqual(tree_count(family, 0), 10 ** 30)
        self.assertEqual(tree_count(family, 1), 10 ** 29)

    def test_more_than_10_to_30(self):
        family = powers(30, extra=1)
        self.assertEqual(tree_count(family, 1), 10 ** 29)
        with self.assertRaises(TooManyTrees):
            tree_count(family, 0)
        with self.assertRaises(TooManyTrees):
            product_count(family)

    def test_several_roots_together(self):
        variants = powers(30)[2]
        self.assertEqual(product_count((31, (1, 2), variants)), 10 ** 29 + 10 ** 28)
        with self.assertRaises(TooManyTrees):
            product_count((31, (0, 30), variants))

    def test_far_more_than_can_be_written_down(self):
        count, roots, variants = long_row()
        doubled = (count, roots, variants + ((39, (), 0),))
        self.assertEqual(product_count(long_row()), 1)
        self.assertEqual(tree_count(doubled, 36), 2 ** 27)
        with self.assertRaises(TooManyTrees):
            product_count(doubled)
        with self.assertRaises(TooManyTrees):
            tree_count(doubled, 34)

    def test_infinitely_many_are_not_too_many(self):
        count, _, variants = powers(30, extra=1)
        family = (count + 1, (0, count), variants + ((count, (count,), 0), (count, (), 0)))
        self.assertIsNone(product_count(family))
        self.assertIsNone(product_count((count + 1, (0, count), ((count, (count,), 0), (count, (), 0)) + variants)))

    def test_beyond_the_bound_below_an_empty_slot(self):
        # The variant with very many trees in one slot cannot be filled, so it does not count.
        count, _, variants = powers(30, extra=1)
        family = (count + 2, (count,), variants + ((count, (0, count + 1), 0), (count, (), 0)))
        self.assertEqual(product_count(family), 1)

    def test_against_all_trees(self):
        for family in families_by_chance(200, states=3, variants=5, low=-2, seed=11):
            products = product_count(family)
            self.assertIs(products is None, find_repetition(with_prices_0(family)) is not None)
            trees = trees_by_size(family, 7)
            for state in range(family[0]):
                found = tree_count(family, state)
                self.assertIs(found is None, leads_to_cycle(family, trees, state))
                if found is not None:
                    self.assertEqual(found, sum(len(row) for row in trees[state]))
                    self.assertTrue(is_plain(found))
            if products is not None:
                self.assertEqual(products, sum(len(row) for root in family[1] for row in trees[root]))


class TestArgumentsAlone(unittest.TestCase):
    def test_one_family_after_another(self):
        check_independent(self, counts_by_size, (STANDS, 0, 5), (FORKS, 0, 5))
        check_independent(self, tree_count, (FIXED, 0), (FORKS, 0))
        check_independent(self, product_count, (FIXED,), (FORKS,))


if __name__ == "__main__":
    unittest.main()
