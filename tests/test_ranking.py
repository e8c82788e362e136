"""Tests of slotwise/ranking.py: points 260 and 103, with 102."""

import inspect
import itertools
import unittest

from slotwise.ranking import first_products, least_by_size, trees_of_size
from slotwise.trees import is_product, price_of
from tests.helpers import EMPTY_SLOTS, FIXED, FORKS, NOTHING, STANDS
from tests.helpers import all_products, check_independent, families_by_chance, in_order, is_plain, trees_by_size

THREES = (2, (0,), ((0, (0, 1, 0), -2), (0, (), 1), (1, (), 3), (1, (1,), -1), (0, (), 1)))
LARGE = (2, (0,), ((0, (0, 1, 0), 1),) * 290 + ((1, (0, 0), 2),) * 20 + ((0, (), 0),) * 290)


class TestTreesOfSize(unittest.TestCase):
    def test_example(self):
        self.assertEqual(list(trees_of_size(FORKS, 0, 5)), [(0, 0, 1, 1, 1), (0, 1, 0, 1, 1)])

    def test_it_is_a_generator(self):
        self.assertTrue(inspect.isgeneratorfunction(trees_of_size))
        trees = trees_of_size(FORKS, 0, 5)
        self.assertEqual(next(trees), (0, 0, 1, 1, 1))
        self.assertEqual(next(trees), (0, 1, 0, 1, 1))
        self.assertRaises(StopIteration, next, trees)

    def test_one_part(self):
        self.assertEqual(list(trees_of_size(STANDS, 0, 1)), [])
        self.assertEqual(list(trees_of_size(THREES, 0, 1)), [(1,), (4,)])
        self.assertEqual(list(trees_of_size(NOTHING, 0, 1)), [])

    def test_none(self):
        for parts in range(1, 11):
            self.assertEqual(list(trees_of_size(EMPTY_SLOTS, 0, parts)), [])
        self.assertEqual(list(trees_of_size(FORKS, 0, 10)), [])

    def test_ten_parts(self):
        trees = list(trees_of_size(STANDS, 0, 10))
        self.assertEqual(len(trees), 2 * 2 ** 8 + 8 * 2 ** 7)
        self.assertEqual(trees, sorted(set(trees)))
        found = list(trees_of_size(THREES, 0, 10))
        self.assertEqual(found, sorted(trees_by_size(THREES, 10)[0][10]))

    def test_many_trees_are_not_built_in_advance(self):
        first = list(itertools.islice(trees_of_size(LARGE, 0, 6), 3))
        self.assertEqual(first, [(0, 310, 290, 310, 310, last) for last in (310, 311, 312)])
        self.assertEqual(list(trees_of_size(LARGE, 0, 10)), [])

    def test_generators_do_not_affect_each_other(self):
        one = trees_of_size(FORKS, 0, 7)
        other = trees_of_size(FORKS, 0, 7)
        self.assertEqual([next(one), next(other), next(other)][:2], [next(trees_of_size(FORKS, 0, 7))] * 2)
        self.assertEqual(len(list(one)), 4)
        self.assertEqual(len(list(other)), 3)

    def test_against_all_trees(self):
        for family in families_by_chance(60, slots=3, low=-3, seed=18):
            found = trees_by_size(family, 7)
            for state in range(family[0]):
                for parts in range(1, 8):
                    trees = list(trees_of_size(family, state, parts))
                    self.assertEqual(trees, sorted(found[state][parts]))
                    self.assertTrue(is_plain(tuple(trees)))


class TestLeastBySize(unittest.TestCase):
    def test_example(self):
        self.assertEqual(least_by_size(FORKS, 0, 5), (1, None, 4, None, 7))

    def test_none(self):
        self.assertEqual(least_by_size(EMPTY_SLOTS, 1, 3), (None, None, None))
        self.assertEqual(least_by_size(NOTHING, 1, 1), (None,))
        self.assertEqual(least_by_size(STANDS, 3, 20), (1,) + (None,) * 19)

    def test_up_to_20_parts(self):
        self.assertEqual(least_by_size(STANDS, 0, 20), (None, 36, 45) + tuple(57 + 12 * many for many in range(17)))
        self.assertEqual(least_by_size(FORKS, 0, 20), tuple(None if at % 2 else 3 * at // 2 + 1 for at in range(20)))

    def test_prices_below_0(self):
        self.assertEqual(least_by_size(THREES, 0, 5), (1, None, None, 3, 2))
        chain = (1, (0,), ((0, (0,), -3), (0, (), 1), (0, (0,), -10 ** 39)))
        self.assertEqual(least_by_size(chain, 0, 20), tuple(1 - many * 10 ** 39 for many in range(20)))

    def test_against_all_trees(self):
        for family in families_by_chance(60, slots=3, low=-3, seed=19):
            found = trees_by_size(family, 7)
            for state in range(family[0]):
                expected = [
                    min((price_of(family, tree) for tree in trees), default=None) for trees in found[state][1:]
                ]
                least = least_by_size(family, state, 7)
                self.assertEqual(least, tuple(expected))
                self.assertTrue(is_plain(least))


class TestFirstProducts(unittest.TestCase):
    def test_examples(self):
        self.assertEqual(first_products(FIXED), ((0, 3), (1, 2, 3), (1, 4)))
        self.assertEqual(first_products(STANDS, many=4, most=3), ((0, 7), (1, 6, 7), (0, 2, 7), (1, 8)))

    def test_default_arguments(self):
        found = first_products(STANDS)
        self.assertEqual(found, first_products(STANDS, many=10, most=8))
        self.assertEqual(found, tuple(in_order(STANDS, all_products(STANDS, 8))[:10]))
        self.assertEqual(first_products(STANDS, many=3), found[:3])
        chain = (1, (0,), ((0, (0,), -3), (0, (), 1)))
        self.assertEqual(len(first_products(chain)[0]), 8)
        self.assertEqual(len(first_products(chain, most=10)), 10)

    def test_only_keywords(self):
        self.assertRaises(TypeError, first_products, STANDS, 4)

    def test_fewer_than_asked_for(self):
        self.assertEqual(first_products(FIXED, many=60, most=10), ((0, 3), (1, 2, 3), (1, 4)))
        self.assertEqual(first_products(FIXED, many=60, most=2), ((0, 3), (1, 4)))
        self.assertEqual(first_products(FIXED, many=60, most=1), ())
        self.assertEqual(first_products(FIXED, many=1, most=10), ((0, 3),))

    def test_no_products(self):
        self.assertEqual(first_products(NOTHING), ())
        self.assertEqual(first_products(EMPTY_SLOTS), ())
        self.assertEqual(first_products((4, (), STANDS[2])), ())

    def test_several_roots(self):
        family = (3, (0, 1), ((1, (2,), 1), (0, (2,), 1), (2, (), 3), (0, (), 4), (1, (), 4), (2, (), 3)))
        expected = ((3,), (4,), (0, 2), (0, 5), (1, 2), (1, 5))
        self.assertEqual(first_products(family), expected)
        self.assertEqual(first_products(family, many=3), expected[:3])

    def test_ties_in_price(self):
        free = (1, (0,), ((0, (0, 0), 0), (0, (), 0), (0, (), 0)))
        expected = in_order(free, all_products(free, 9))
        self.assertEqual(first_products(free, many=60, most=10), tuple(expected[:60]))

    def test_prices_below_0(self):
        self.assertEqual(first_products(THREES, many=60, most=7), tuple(in_order(THREES, all_products(THREES, 7))[:60]))

    def test_a_large_family(self):
        found = first_products(LARGE, many=60, most=10)
        self.assertEqual(found, tuple((number,) for number in range(310, 370)))
        dear = (2, (0,), LARGE[2][:310] + tuple((0, (), number) for number in range(290)))
        found = first_products(dear, many=60, most=10)
        self.assertEqual(found[:3], ((310,), (311,), (312,)))
        self.assertTrue(all(is_product(dear, tree) for tree in found))
        self.assertEqual(list(found), in_order(dear, found))
        self.assertEqual(len(set(found)), 60)

    def test_against_all_products(self):
        for family in families_by_chance(80, slots=3, low=-2, high=2, seed=20):
            ordered = in_order(family, all_products(family, 7))
            for many in (1, 2, 7, 60):
                found = first_products(family, many=many, most=7)
                self.assertEqual(found, tuple(ordered[:many]))
                self.assertTrue(is_plain(found))


class TestArgumentsAlone(unittest.TestCase):
    def test_one_family_after_another(self):
        def listed(family, state, parts):
            return list(trees_of_size(family, state, parts))

        check_independent(self, listed, (STANDS, 0, 3), (FORKS, 0, 3))
        check_independent(self, least_by_size, (STANDS, 0, 3), (FORKS, 0, 3))
        check_independent(self, first_products, (STANDS,), (FORKS,))


if __name__ == "__main__":
    unittest.main()
