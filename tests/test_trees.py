"""Tests of slotwise/trees.py: points 100 to 106."""

import itertools
import random
import unittest

from slotwise.errors import TooManyParts
from slotwise.trees import comes_before, is_product, is_tree, places_of, price_of, span_of, with_part
from tests.helpers import EMPTY_SLOTS, FORKS, NOTHING, STANDS
from tests.helpers import all_products, all_trees, check_independent, families_by_chance, is_plain, rank

WIDE = (3, (0, 2), ((0, (1, 2, 1), 5), (1, (), -3), (2, (1, 1), -10 ** 39), (2, (), 0), (1, (2,), None)))


def chain(parts):
    """A tree of forks with this odd number of parts."""
    return (0, 1) * (parts // 2) + (1,)


class TestIsTree(unittest.TestCase):
    def test_examples(self):
        self.assertIs(is_tree(STANDS, 0, (1, 5, 8)), True)
        self.assertIs(is_tree(STANDS, 0, (1, 5)), False)

    def test_edges(self):
        for tree in ((), (10,), (-1,), (-10, 7), (0, -3), (0, 7, 7), (7, 0), (1, 7), (0, 8), (9,), (10 ** 30,)):
            self.assertIs(is_tree(STANDS, 0, tree), False, tree)
            self.assertIs(is_product(STANDS, tree), False, tree)
        self.assertIs(is_tree(STANDS, 3, (9,)), True)
        self.assertIs(is_tree(WIDE, 0, (0, 1, 3, 1)), True)
        self.assertIs(is_tree(WIDE, 0, (0, 4, 3, 3, 1)), False)
        self.assertIs(is_tree(WIDE, 1, (4, 3)), False)

    def test_a_negative_number_does_not_count_from_the_end(self):
        self.assertIs(is_tree(FORKS, 0, (-1,)), False)
        self.assertIs(is_tree(FORKS, 0, (-2, -1, -1)), False)

    def test_hundred_numbers(self):
        self.assertIs(is_tree(FORKS, 0, chain(99)), True)
        self.assertIs(is_tree(FORKS, 0, chain(99) + (1,)), False)
        self.assertIs(is_tree(FORKS, 0, (0,) * 100), False)
        self.assertIs(is_tree(FORKS, 0, (1,) * 100), False)

    def test_families_without_variants_or_roots(self):
        for tree in ((), (0,), (0, 0)):
            self.assertIs(is_tree(NOTHING, 1, tree), False)
            self.assertIs(is_product(NOTHING, tree), False)
        without_roots = (4, (), STANDS[2])
        self.assertIs(is_tree(without_roots, 0, (0, 7)), True)
        self.assertIs(is_product(without_roots, (0, 7)), False)
        self.assertIs(is_tree(EMPTY_SLOTS, 1, (2,)), False)

    def test_products_have_a_root_of_the_family(self):
        self.assertIs(is_product(STANDS, (1, 5, 8)), True)
        self.assertIs(is_product(STANDS, (7,)), False)
        self.assertIs(is_product(WIDE, (3,)), True)
        self.assertIs(is_product(WIDE, (1,)), False)
        self.assertIs(is_product(WIDE, (0, 1, 3, 1)), True)

    def test_against_all_short_tuples(self):
        for family in families_by_chance(25, variants=4, slots=3):
            trees = [set(all_trees(family, state, 4)) for state in range(family[0])]
            products = set(all_products(family, 4))
            for length in range(5):
                for numbers in itertools.product(range(-1, len(family[2]) + 1), repeat=length):
                    self.assertIs(is_product(family, numbers), numbers in products)
                    for state in range(family[0]):
                        self.assertIs(is_tree(family, state, numbers), numbers in trees[state])

    def test_trees_with_one_number_left_out_put_in_or_exchanged(self):
        chance = random.Random(5)
        for family in families_by_chance(60):
            valid = set(all_trees(family, 0, 8))
            for tree in sorted(valid, key=len)[-20:]:
                at = chance.randrange(len(tree))
                number = chance.randrange(-1, len(family[2]) + 1)
                shorter = tree[:at] + tree[at + 1:]
                changed = tree[:at] + (number,) + tree[at + 1:]
                longer = tree[:at] + (number,) + tree[at:]
                self.assertIs(is_tree(family, 0, shorter), shorter in valid)
                self.assertIs(is_tree(family, 0, changed), changed in valid)
                if len(longer) <= 8:
                    self.assertIs(is_tree(family, 0, longer), longer in valid)


class TestParts(unittest.TestCase):
    def test_examples(self):
        self.assertEqual(price_of(STANDS, (1, 5, 8)), 67)
        self.assertEqual(span_of(STANDS, (1, 5, 8), 1), 2)
        self.assertEqual(places_of(STANDS, (1, 5, 8)), ((None, None), (0, 0), (1, 0)))

    def test_prices_below_0(self):
        tree = (0, 1, 2, 1, 1, 1)
        self.assertEqual(price_of(WIDE, tree), 5 - 4 * 3 - 10 ** 39)
        self.assertTrue(is_plain(price_of(WIDE, tree)))

    def test_a_part_that_occurs_several_times_counts_each_time(self):
        self.assertEqual(price_of(FORKS, (0, 0, 1, 1, 1)), 7)

    def test_spans_and_places_with_two_and_three_slots(self):
        tree = (0, 1, 2, 1, 1, 1)
        self.assertEqual([span_of(WIDE, tree, number) for number in range(6)], [6, 1, 3, 1, 1, 1])
        self.assertEqual(places_of(WIDE, tree), ((None, None), (0, 0), (0, 1), (2, 0), (2, 1), (0, 2)))
        self.assertEqual(places_of(FORKS, (0, 0, 1, 1, 1)), ((None, None), (0, 0), (1, 0), (1, 1), (0, 1)))
        self.assertTrue(is_plain(places_of(WIDE, tree)))

    def test_spans_in_a_tree_at_a_state_that_is_no_root(self):
        self.assertEqual(span_of(STANDS, (6, 7), 0), 2)
        self.assertEqual(places_of(STANDS, (6, 7)), ((None, None), (0, 0)))

    def test_spans_and_places_fit_together(self):
        for family in families_by_chance(40, slots=3):
            for tree in all_trees(family, 0, 7):
                places = places_of(family, tree)
                for number in range(len(tree)):
                    end = number + span_of(family, tree, number)
                    self.assertTrue(is_tree(family, family[2][tree[number]][0], tree[number:end]))
                    slots = family[2][tree[number]][1]
                    inside = [at for at, place in enumerate(places) if place[0] == number]
                    self.assertEqual([places[at][1] for at in inside], list(range(len(slots))))
                    self.assertEqual([family[2][tree[at]][0] for at in inside], list(slots))
                    self.assertTrue(all(number < at < end for at in inside))


class TestWithPart(unittest.TestCase):
    def test_example(self):
        self.assertEqual(with_part(STANDS, (1, 5, 8), 2, (6, 7)), (1, 5, 6, 7))

    def test_root_and_middle(self):
        self.assertEqual(with_part(STANDS, (1, 5, 8), 0, (0, 7)), (0, 7))
        self.assertEqual(with_part(WIDE, (0, 1, 2, 1, 1, 1), 2, (3,)), (0, 1, 3, 1))
        self.assertEqual(with_part(FORKS, (0, 0, 1, 1, 1), 1, (1,)), (0, 1, 1))

    def test_exactly_100_parts(self):
        lengths = (1, (0,), ((0, (0,), 2), (0, (), 1)))
        full = with_part(lengths, (0,) * 49 + (1,), 49, (0,) * 50 + (1,))
        self.assertEqual(full, (0,) * 99 + (1,))
        self.assertEqual(with_part(lengths, full, 50, (0,) * 49 + (1,)), full)

    def test_101_parts(self):
        lengths = (1, (0,), ((0, (0,), 2), (0, (), 1)))
        with self.assertRaises(TooManyParts) as caught:
            with_part(lengths, (0,) * 49 + (1,), 49, (0,) * 51 + (1,))
        self.assertEqual(caught.exception.count, 101)
        with self.assertRaises(TooManyParts) as caught:
            with_part(lengths, (0,) * 99 + (1,), 99, (0,) * 99 + (1,))
        self.assertEqual(caught.exception.count, 199)

    def test_against_trees(self):
        for family in families_by_chance(30):
            trees = [all_trees(family, state, 5) for state in range(family[0])]
            for tree in trees[0][:30]:
                for number in range(len(tree)):
                    for other in trees[family[2][tree[number]][0]][:6]:
                        changed = with_part(family, tree, number, other)
                        self.assertTrue(is_tree(family, 0, changed))
                        self.assertEqual(changed[:number], tree[:number])
                        self.assertEqual(changed[number:number + len(other)], other)


class TestOrder(unittest.TestCase):
    TIES = (2, (0, 1), ((0, (), 5), (0, (1,), 3), (1, (), 2), (1, (), 2), (0, (1, 1), 1), (1, (), 5)))

    def test_example(self):
        self.assertIs(comes_before(STANDS, (1, 8), (0, 7)), False)
        self.assertIs(comes_before(STANDS, (0, 7), (1, 8)), True)

    def test_equal_prices(self):
        self.assertIs(comes_before(self.TIES, (0,), (1, 2)), True)
        self.assertIs(comes_before(self.TIES, (1, 2), (0,)), False)
        self.assertIs(comes_before(self.TIES, (1, 2), (4, 2, 2)), True)

    def test_equal_prices_and_numbers_of_parts(self):
        self.assertIs(comes_before(self.TIES, (1, 2), (1, 3)), True)
        self.assertIs(comes_before(self.TIES, (1, 3), (1, 2)), False)
        self.assertIs(comes_before(self.TIES, (4, 2, 3), (4, 3, 2)), True)

    def test_trees_at_different_states(self):
        self.assertIs(comes_before(self.TIES, (0,), (5,)), True)
        self.assertIs(comes_before(self.TIES, (2,), (0,)), True)

    def test_a_tree_and_itself(self):
        self.assertIs(comes_before(STANDS, (1, 8), (1, 8)), False)

    def test_the_dearer_tree_comes_later_however_few_parts_it_has(self):
        self.assertIs(comes_before(FORKS, (0, 1, 1), (1,)), False)
        self.assertIs(comes_before(WIDE, (2, 1, 1), (1,)), True)

    def test_against_sorting(self):
        for family in families_by_chance(20, low=-2, high=2):
            trees = [tree for state in range(family[0]) for tree in all_trees(family, state, 4)]
            for first in trees[:15]:
                for second in trees[-15:]:
                    self.assertIs(comes_before(family, first, second), rank(family, first) < rank(family, second))


class TestArgumentsAlone(unittest.TestCase):
    def test_one_family_after_another(self):
        other = (2, (0, 1), ((0, (), 4), (0, (1, 1), 2), (1, (), 1), (1, (0, 0, 0), 9)))
        check_independent(self, is_tree, (STANDS, 0, (1, 8)), (other, 0, (1, 8)))
        check_independent(self, is_product, (STANDS, (0, 7)), (other, (0, 7)))
        check_independent(self, price_of, (STANDS, (7,)), (other, (2,)))
        check_independent(self, span_of, (STANDS, (1, 8), 0), (other, (1, 2, 2), 0))
        check_independent(self, places_of, (STANDS, (1, 8)), (other, (1, 2, 2)))
        check_independent(self, with_part, (STANDS, (1, 8), 0, (0, 7)), (other, (1, 2, 2), 2, (3, 0, 0, 0)))
        check_independent(self, comes_before, (STANDS, (7,), (8,)), (other, (3, 0, 0, 0), (2,)))


if __name__ == "__main__":
    unittest.main()
