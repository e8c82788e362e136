"""Tests of slotwise/special.py: point 282, with 103, 105, 120 to 123, 280 and 281."""

import random
import unittest

from slotwise.demands import paths_of
from slotwise.errors import TooManyParts
from slotwise.special import first_with, least_prices_at, least_with, specialised
from tests.helpers import (
    FORKS, LONG_ROW_PARTS, NOTHING, STANDS, all_products, check_independent, demands_by_chance, families_by_chance,
    finite_family_by_chance, in_order, is_plain, long_row, meets, names_by_chance, rank, row_of_100, row_of_101,
)

NAMES = (("top",), ("top",), ("end",), ("end",), ("end",), ("end",), ("end",), (), (), ())
CHAIN = (1, (0,), ((0, (0,), 3), (0, (), 1)))
CHAIN_NAMES = (("next",), ())
FORK_NAMES = (("left", "right"), ())
ROW_NAMES = ("one", "two", "three")


def names_of(family):
    """Slot names of a row: the first ones of three names."""
    return tuple(ROW_NAMES[:len(slots)] for _, slots, _ in family[2])


def copies(family, names, demands):
    """The specialised family, one copy after the other by the words of point 282."""
    count, roots, variants = family
    paths = paths_of(demands)
    rows = list(variants)
    for block, path in enumerate(paths, 1):
        for k, (plug, slots, price) in enumerate(variants):
            inside = []
            for state, name in zip(slots, names[k]):
                longer = path + (name,)
                inside.append(state + count * (paths.index(longer) + 1) if longer in paths else state)
            for other, allowed in demands:
                if other == path and k not in allowed:
                    price = None
            for longer in paths:
                if len(longer) == len(path) + 1 and longer[:len(path)] == path and longer[-1] not in names[k]:
                    price = None
            rows.append((plug + count * block, tuple(inside), price))
    return (count * (len(paths) + 1), tuple(root + count for root in roots), tuple(rows))


class TestSpecialised(unittest.TestCase):
    def test_example(self):
        expected = (3, (1,), ((0, (0,), 3), (0, (), 1), (1, (2,), 3), (1, (), None), (2, (0,), None), (2, (), 1)))
        self.assertEqual(specialised(CHAIN, CHAIN_NAMES, ((("next",), (1,)),)), expected)

    def test_no_demands(self):
        expected = (2, (1,), CHAIN[2] + ((1, (0,), 3), (1, (), 1)))
        self.assertEqual(specialised(CHAIN, CHAIN_NAMES, ()), expected)
        self.assertEqual(specialised(NOTHING, (), ()), (6, (), ()))

    def test_the_empty_path(self):
        expected = (2, (1,), CHAIN[2] + ((1, (0,), None), (1, (), 1)))
        self.assertEqual(specialised(CHAIN, CHAIN_NAMES, (((), (1,)),)), expected)

    def test_several_demands_with_the_same_path(self):
        expected = specialised(CHAIN, CHAIN_NAMES, (((), ()),))
        self.assertEqual(expected[2][2:], ((1, (0,), None), (1, (), None)))
        self.assertEqual(specialised(CHAIN, CHAIN_NAMES, (((), (0,)), ((), (1,)))), expected)
        both = ((("next",), (0, 1)), (("next",), (1,)), (("next",), (0, 1)))
        self.assertEqual(specialised(CHAIN, CHAIN_NAMES, both), specialised(CHAIN, CHAIN_NAMES, both[1:2]))

    def test_equal_demands(self):
        demand = (("next", "next"), (0,))
        self.assertEqual(specialised(CHAIN, CHAIN_NAMES, (demand,) * 9), specialised(CHAIN, CHAIN_NAMES, (demand,)))

    def test_a_name_that_no_slot_has(self):
        found = specialised(CHAIN, CHAIN_NAMES, ((("next", "far"), (0, 1)),))
        expected = (4, (1,), CHAIN[2] + ((1, (2,), 3), (1, (), None), (2, (0,), None), (2, (), None), (3, (0,), 3), (3, (), 1)))
        self.assertEqual(found, expected)

    def test_paths_of_several_branches(self):
        found = specialised(FORKS, FORK_NAMES, ((("right",), (0,)), (("left",), (1,))))
        # Block 2 belongs to the path `left`, block 3 to the path `right`.
        expected = ((0, (0, 0), 2), (0, (), 1), (1, (2, 3), 2), (1, (), None), (2, (0, 0), None), (2, (), 1),
                    (3, (0, 0), 2), (3, (), None))
        self.assertEqual(found, (4, (1,), expected))

    def test_missing_variants_and_several_roots(self):
        family = (3, (0, 2), ((0, (1,), None), (2, (1, 0), -4), (1, (), None), (1, (), 0)))
        names = (("a",), ("a", "b"), (), ())
        found = specialised(family, names, ((("a",), (2, 3)),))
        expected = family[2] + ((3, (7,), None), (5, (7, 0), -4), (4, (), None), (4, (), None))
        expected += ((6, (1,), None), (8, (1, 0), None), (7, (), None), (7, (), 0))
        self.assertEqual(found, (9, (3, 5), expected))

    def test_against_the_words_of_the_document(self):
        chance = random.Random(1)
        for family in families_by_chance(200, states=4, variants=9, slots=3, low=-3, seed=2):
            names = names_by_chance(family, chance)
            demands = demands_by_chance(family, chance, most=9, longest=4)
            found = specialised(family, names, demands)
            self.assertEqual(found, copies(family, names, demands))
            self.assertTrue(is_plain(found))

    def test_its_products_are_those_that_satisfy_the_demands(self):
        chance = random.Random(2)
        some = 0
        for family in families_by_chance(400, variants=8, low=-2, seed=3):
            names = names_by_chance(family, chance)
            demands = demands_by_chance(family, chance)
            narrowed = specialised(family, names, demands)
            found = in_order(narrowed, all_products(narrowed, 5))
            wanted = [tree for tree in all_products(family, 5) if meets(family, names, tree, demands)]
            plain = [tuple(number % len(family[2]) for number in tree) for tree in found]
            self.assertEqual(plain, in_order(family, wanted))
            self.assertEqual([rank(narrowed, tree)[0] for tree in found], [rank(family, tree)[0] for tree in plain])
            some += bool(demands and wanted)
        self.assertGreater(some, 40)


class TestLeastWith(unittest.TestCase):
    def check_count(self, family, names, demands, count):
        """Check that the first product would have so many parts."""
        with self.assertRaises(TooManyParts) as caught:
            first_with(family, names, demands)
        self.assertEqual(caught.exception.count, count)

    def test_examples(self):
        self.assertEqual(least_with(STANDS, NAMES, ((("top",), (4, 5)),)), 53)
        self.assertEqual(first_with(STANDS, NAMES, ((("top",), (4, 5)), ((), (1,)))), (1, 5, 6, 7))

    def test_no_demands(self):
        self.assertEqual(least_with(STANDS, NAMES, ()), 36)
        self.assertEqual(first_with(STANDS, NAMES, ()), (0, 7))

    def test_no_product_satisfies_the_demands(self):
        for demands in (
            (((), ()),), (((), (0,)), ((), (1,))), (((), (2,)),), ((("end",), (7,)),), ((("top",), (9,)),),
            ((("top", "end"), (8,)), ((), (0,))), ((("top", "top"), tuple(range(10))),),
        ):
            self.assertIsNone(least_with(STANDS, NAMES, demands))
            self.assertIsNone(first_with(STANDS, NAMES, demands))
        for demands in ((), (((), ()),)):
            self.assertIsNone(least_with(NOTHING, (), demands))
            self.assertIsNone(first_with(NOTHING, (), demands))

    def test_paths_of_four_names(self):
        demands = ((("top", "end", "end", "end"), (2, 3, 4, 5)), (("top",), tuple(range(10))))
        self.assertEqual(first_with(STANDS, NAMES, demands), (1, 3, 3, 6, 2, 7))
        self.assertEqual(least_with(STANDS, NAMES, demands), 81)
        demands += (((), (0,)),)
        self.assertEqual(first_with(STANDS, NAMES, demands), (0, 2, 2, 2, 2, 7))
        self.assertEqual(least_with(STANDS, NAMES, demands), 84)

    def test_ties_in_price(self):
        family = (2, (0,), ((0, (1,), 2), (0, (1, 1), 1), (0, (1,), 2), (1, (), 1), (1, (), 1), (0, (), 3)))
        names = (("a",), ("a", "b"), ("a",), (), (), ())
        everything = tuple(range(6))
        self.assertEqual(first_with(family, names, ()), (5,))
        self.assertEqual(first_with(family, names, ((("a",), everything),)), (0, 3))
        self.assertEqual(first_with(family, names, ((("a",), (4,)), ((), (1, 2)))), (2, 4))
        self.assertEqual(first_with(family, names, ((("b",), everything),)), (1, 3, 3))
        self.assertEqual(first_with(family, names, ((("b",), (4,)), (("a",), (4,)))), (1, 4, 4))

    def test_ties_between_roots(self):
        family = (2, (0, 1), ((1, (), 2), (0, (), 2), (1, (), 2)))
        self.assertEqual(first_with(family, ((), (), ()), ()), (0,))
        self.assertEqual(first_with(family, ((), (), ()), (((), (1, 2)),)), (1,))

    def test_more_than_100_parts(self):
        hundred = row_of_100()
        self.assertEqual(len(first_with(hundred, names_of(hundred), ())), 100)
        larger = row_of_101()
        self.check_count(larger, names_of(larger), (), 101)
        self.check_count(larger, names_of(larger), ((("one", "one"), (2,)),), 101)
        self.assertEqual(least_with(larger, names_of(larger), ((("one", "one"), (2,)),)), 0)
        self.assertIsNone(first_with(larger, names_of(larger), ((("one", "one"), (1,)),)))
        huge = long_row(price=1)
        self.check_count(huge, names_of(huge), ((("three",), (1,)),), LONG_ROW_PARTS)
        self.assertEqual(least_with(huge, names_of(huge), ((("three",), (1,)),)), LONG_ROW_PARTS)

    def test_prices_of_40_digits(self):
        price = 10 ** 40 - 1
        family = (1, (0,), ((0, (0,), price), (0, (), price)))
        self.assertEqual(least_with(family, CHAIN_NAMES, ((("next", "next"), (1,)),)), 3 * price)

    def test_against_all_products(self):
        chance = random.Random(4)
        some = 0
        for _ in range(800):
            family = finite_family_by_chance(chance)
            names = names_by_chance(family, chance)
            demands = demands_by_chance(family, chance)
            wanted = [tree for tree in all_products(family, 15) if meets(family, names, tree, demands)]
            first = in_order(family, wanted)[0] if wanted else None
            self.assertEqual(first_with(family, names, demands), first)
            self.assertEqual(least_with(family, names, demands), rank(family, first)[0] if wanted else None)
            some += bool(demands and wanted)
        self.assertGreater(some, 100)

    def test_families_with_infinitely_many_products(self):
        chance = random.Random(5)
        for family in families_by_chance(150, states=2, variants=6, slots=1, seed=6):
            names = names_by_chance(family, chance)
            demands = demands_by_chance(family, chance)
            wanted = [tree for tree in all_products(family, 6) if meets(family, names, tree, demands)]
            # With at most one slot for each variant no first product has more than 2 parts behind the paths.
            self.assertEqual(first_with(family, names, demands), in_order(family, wanted)[0] if wanted else None)


class TestLeastPricesAt(unittest.TestCase):
    def test_against_demands_for_each_variant(self):
        chance = random.Random(7)
        some = 0
        for family in families_by_chance(300, states=3, variants=12, slots=2, seed=8):
            names = names_by_chance(family, chance)
            demands = demands_by_chance(family, chance)
            path = tuple(chance.choice("abc") for _ in range(chance.randint(0, 3)))
            expected = [least_with(family, names, demands + ((path, (k,)),)) for k in range(len(family[2]))]
            self.assertEqual(least_prices_at(family, names, demands, path), expected)
            some += any(price is not None for price in expected) and bool(path)
        self.assertGreater(some, 30)


class TestArgumentsAlone(unittest.TestCase):
    def test_one_family_after_another(self):
        demands = ((("top",), (4, 5)),)
        for ask in (specialised, least_with, first_with):
            check_independent(self, ask, (STANDS, NAMES, demands), (CHAIN, CHAIN_NAMES, ((("next",), (1,)),)))
            check_independent(self, ask, (STANDS, NAMES, demands), (STANDS, NAMES, demands * 2 + (((), (1,)),)))


if __name__ == "__main__":
    unittest.main()
