"""Tests of slotwise/useful.py: point 140."""

import unittest

from slotwise.trees import is_product
from slotwise.useful import filled_states, reached_states, trimmed, useful_variants
from tests.helpers import EMPTY_SLOTS, FORKS, NOTHING, STANDS
from tests.helpers import all_products, check_independent, families_by_chance, is_plain, long_row, trees_by_size

# State 1 is filled, but not reached; state 2 is reached, but not filled; state 3 is neither.
MIXED = (5, (0,), (
    (0, (4, 4), -5), (1, (), 2), (0, (2,), 1), (2, (2,), 0), (3, (2,), 0), (4, (), -1), (4, (), None), (0, (4, 2), 3),
))


def filled_in_rounds(family):
    """The filled states as point 140 tells, in rounds."""
    filled = set()
    while True:
        more = {
            plug for plug, slots, price in family[2]
            if price is not None and all(state in filled for state in slots)
        }
        if more == filled:
            return filled
        filled = more


class TestFilledAndReached(unittest.TestCase):
    def test_examples(self):
        self.assertEqual(filled_states(STANDS), (0, 1, 2, 3))
        self.assertEqual(reached_states(STANDS), (0, 1, 2))
        self.assertEqual(useful_variants(STANDS), (0, 1, 2, 3, 4, 5, 6, 7, 8))

    def test_filled_but_not_reached_and_the_reverse(self):
        self.assertEqual(filled_states(MIXED), (0, 1, 4))
        # State 2 is needed only by variants that cannot be filled, so it is not reached.
        self.assertEqual(reached_states(MIXED), (0, 4))
        self.assertEqual(useful_variants(MIXED), (0, 5))
        self.assertEqual(reached_states((5, (0, 2), MIXED[2])), (0, 2, 4))
        self.assertEqual(useful_variants((5, (0, 2), MIXED[2])), (0, 5))

    def test_roots_are_reached_even_if_they_are_not_filled(self):
        self.assertEqual(reached_states(EMPTY_SLOTS), (0,))
        self.assertEqual(filled_states(EMPTY_SLOTS), ())
        self.assertEqual(useful_variants(EMPTY_SLOTS), ())

    def test_families_without_variants_or_roots(self):
        self.assertEqual(filled_states(NOTHING), ())
        self.assertEqual(reached_states(NOTHING), ())
        self.assertEqual(useful_variants(NOTHING), ())
        self.assertEqual(trimmed(NOTHING), NOTHING)
        without_roots = (4, (), STANDS[2])
        self.assertEqual(filled_states(without_roots), (0, 1, 2, 3))
        self.assertEqual(reached_states(without_roots), ())
        self.assertEqual(useful_variants(without_roots), ())

    def test_missing_variants_fill_nothing_and_reach_nothing(self):
        family = (3, (0,), ((0, (1,), None), (0, (), 1), (1, (2,), 0), (2, (), None)))
        self.assertEqual(filled_states(family), (0,))
        self.assertEqual(reached_states(family), (0,))
        self.assertEqual(useful_variants(family), (1,))

    def test_a_slot_state_that_occurs_several_times(self):
        family = (2, (0,), ((0, (1, 1, 1), 0), (1, (), 0), (1, (), 5)))
        self.assertEqual(filled_states(family), (0, 1))
        self.assertEqual(useful_variants(family), (0, 1, 2))

    def test_long_row(self):
        self.assertEqual(filled_states(long_row()), tuple(range(40)))
        self.assertEqual(useful_variants(long_row()), tuple(range(40)))

    def test_against_products(self):
        for family in families_by_chance(80, low=-3, high=3):
            filled = filled_states(family)
            self.assertEqual(set(filled), filled_in_rounds(family))
            trees = trees_by_size(family, 7)
            self.assertEqual(filled, tuple(state for state in range(family[0]) if any(trees[state])))
            products = all_products(family, 9)
            useful = useful_variants(family)
            self.assertLessEqual({number for tree in products for number in tree}, set(useful))
            reached = reached_states(family)
            for number, (plug, slots, price) in enumerate(family[2]):
                able = price is not None and all(state in filled for state in slots)
                self.assertIs(number in useful, able and plug in reached)
            self.assertTrue(is_plain((filled, reached, useful)))

    def test_every_useful_variant_is_in_some_product(self):
        for family in families_by_chance(60, states=2, variants=5):
            products = all_products(family, 10)
            self.assertEqual({number for tree in products for number in tree}, set(useful_variants(family)))


class TestTrimmed(unittest.TestCase):
    def test_examples(self):
        kept = (1, (0,), ((0, (), 2), (0, (0, 0), 3), (0, (), None)))
        self.assertEqual(trimmed(kept), kept)
        family = (2, (0,), ((0, (1,), 2), (0, (), 3), (1, (1,), 0)))
        self.assertEqual(trimmed(family), (2, (0,), ((0, (1,), None), (0, (), 3), (1, (1,), None))))

    def test_only_prices_differ(self):
        count, roots, variants = trimmed(MIXED)
        self.assertEqual((count, roots), (5, (0,)))
        self.assertEqual([row[:2] for row in variants], [row[:2] for row in MIXED[2]])
        self.assertEqual([row[2] for row in variants], [-5, None, None, None, None, -1, None, None])

    def test_trimmed_twice(self):
        for family in families_by_chance(60):
            once = trimmed(family)
            self.assertEqual(trimmed(once), once)
            self.assertEqual(useful_variants(once), useful_variants(family))

    def test_the_products_remain(self):
        for family in families_by_chance(30):
            once = trimmed(family)
            self.assertEqual(all_products(once, 6), all_products(family, 6))
            for tree in all_products(family, 4):
                self.assertTrue(is_product(once, tree))


class TestArgumentsAlone(unittest.TestCase):
    def test_one_family_after_another(self):
        for ask in (filled_states, reached_states, useful_variants, trimmed):
            check_independent(self, ask, (STANDS,), (MIXED,))
            check_independent(self, ask, (FORKS,), (STANDS,))


if __name__ == "__main__":
    unittest.main()
