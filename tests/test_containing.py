"""Tests of slotwise/containing.py: point 141, with 103, 105 and 120 to 123."""

import random
import unittest

from slotwise.containing import cheapest_with, cheapest_with_all, cheapest_without
from slotwise.errors import TooManyParts
from slotwise.least import cheapest
from slotwise.ranking import first_products
from slotwise.special import specialised
from tests.helpers import (
    EMPTY_SLOTS, FIXED, FORKS, LONG_ROW_PARTS, NOTHING, STANDS, all_products, check_independent, families_by_chance,
    finite_family_by_chance, in_order, is_plain, long_row, row_family, row_of_100, row_of_101,
)

# From state 0 to state 1 and back; variants 2 and 3 are on different ways back.
RING = (2, (0,), ((0, (1,), 1), (0, (), 0), (1, (0,), 1), (1, (0,), 2), (1, (), 7)))
# Everything costs the same, and many products have the same number of parts.
TIES = (2, (0, 1), (
    (0, (1, 1), 1), (0, (1,), 1), (1, (), 1), (0, (1, 1), 1), (1, (), 1), (1, (0,), 1), (0, (), None), (1, (1, 0), 1),
))


def groups_by_chance(family, chance, most=3):
    """Up to `most` groups of the variants of the family, perhaps with missing variants, perhaps with shared ones."""
    numbers = range(len(family[2]))
    kept = chance.choice((0.1, 0.3, 0.6, 1))
    return tuple(
        tuple(number for number in numbers if chance.random() < kept) for _ in range(chance.randint(0, most))
    )


def covering(trees, groups):
    """The trees that cover the groups."""
    return [tree for tree in trees if all(any(number in tree for number in group) for group in groups)]


def first_of(family, trees):
    """The first one of the trees in the order of trees, None if there is none."""
    return min(in_order(family, trees)[:1], default=None)


class TestCase(unittest.TestCase):
    def check_count(self, count, ask, *arguments):
        """Check that the product that would be returned has so many parts."""
        with self.assertRaises(TooManyParts) as caught:
            ask(*arguments)
        self.assertEqual(caught.exception.count, count)


class TestCheapestWith(TestCase):
    def test_examples(self):
        self.assertEqual(cheapest_with(STANDS, (4, 5)), (0, 4, 7))
        self.assertIsNone(cheapest_with(STANDS, (9,)))

    def test_no_marked_variant(self):
        for family in (STANDS, FORKS, NOTHING):
            self.assertIsNone(cheapest_with(family, ()))

    def test_all_marked_variants(self):
        for family in (STANDS, FIXED, FORKS, RING, TIES):
            self.assertEqual(cheapest_with(family, tuple(range(len(family[2])))), cheapest(family))

    def test_missing_variants(self):
        family = (2, (0,), ((0, (), 3), (0, (1,), 1), (1, (), None), (1, (), 5)))
        self.assertIsNone(cheapest_with(family, (2,)))
        self.assertEqual(cheapest_with(family, (2, 3)), (1, 3))
        self.assertEqual(cheapest_with(family, (0, 2)), (0,))
        self.assertIsNone(cheapest_with(EMPTY_SLOTS, (0, 1, 2)))

    def test_variants_that_cannot_be_part_of_a_product(self):
        family = (3, (0,), ((0, (), 3), (0, (1,), 1), (2, (0,), 1)))
        for marked in ((1,), (2,), (1, 2)):
            self.assertIsNone(cheapest_with(family, marked))

    def test_the_cheapest_product_has_a_marked_variant(self):
        self.assertEqual(cheapest_with(STANDS, (7,)), (0, 7))
        self.assertEqual(cheapest_with(STANDS, (0, 9)), (0, 7))

    def test_prices_of_40_digits(self):
        large = 10 ** 40 - 1
        family = (2, (0,), ((0, (1, 1), large), (0, (), 0), (1, (), large), (1, (), large - 1)))
        self.assertEqual(cheapest_with(family, (0,)), (0, 3, 3))
        self.assertEqual(cheapest_with(family, (2,)), (0, 2, 3))

    def test_several_roots(self):
        family = (3, (0, 1), ((1, (2,), 1), (0, (2,), 1), (2, (), 3)))
        self.assertEqual(cheapest_with(family, (2,)), (0, 2))
        self.assertEqual(cheapest_with(family, (1,)), (1, 2))

    def test_100_and_101_parts(self):
        row = row_of_100()
        self.assertEqual(cheapest_with(row, (len(row[2]) - 1,)), cheapest(row))
        self.assertEqual(len(cheapest_with(row, (0,))), 100)
        self.check_count(101, cheapest_with, row_of_101(), (3,))
        # The cheapest product has one part, but no marked variant.
        short = (row_of_101()[0], (0,), row_of_101()[2] + ((0, (), 0),))
        self.assertEqual(cheapest(short), (7,))
        self.assertEqual(cheapest_with(short, (7,)), (7,))
        self.check_count(101, cheapest_with, short, (3,))

    def test_more_than_10_to_18_parts(self):
        for price in (0, 3):
            self.check_count(LONG_ROW_PARTS, cheapest_with, long_row(price), (39,))
            self.check_count(LONG_ROW_PARTS, cheapest_with, long_row(price), (0, 20))
        short = (40, (0,), long_row()[2] + ((0, (), 5),))
        self.assertEqual(cheapest_with(short, (40,)), (40,))
        self.assertIsNone(cheapest_with(long_row(), ()))

    def test_the_first_product_counts_although_a_dearer_one_has_fewer_parts(self):
        family = row_of_101()
        family = (family[0], (0,), family[2] + ((0, (), 1),))
        self.check_count(101, cheapest_with, family, (0, 7))

    def test_families_that_were_specialised(self):
        names = (("next",), ())
        chain = specialised((1, (0,), ((0, (0,), 3), (0, (), 1))), names, ((("next", "next"), (0,)),))
        # Block 0 has the variants 0 and 1, the paths of 0 to 2 names have the others.
        self.assertEqual(cheapest_with(chain, (1,)), (2, 4, 6, 1))
        self.assertEqual(cheapest_with(chain, (0,)), (2, 4, 6, 0, 1))
        self.assertIsNone(cheapest_with(chain, (3, 5, 7)))


class TestCheapestWithAll(TestCase):
    def test_examples(self):
        self.assertEqual(cheapest_with_all(STANDS, ((2, 3), (6,))), (1, 3, 6, 7))
        self.assertEqual(cheapest_with_all(STANDS, ()), (0, 7))

    def test_no_groups(self):
        for family in (STANDS, FORKS, FIXED, TIES, NOTHING, EMPTY_SLOTS):
            self.assertEqual(cheapest_with_all(family, ()), cheapest(family))

    def test_an_empty_group(self):
        for groups in (((),), ((0,), ()), ((), (0, 1), (7,)), ((), (), ())):
            self.assertIsNone(cheapest_with_all(STANDS, groups))

    def test_equal_groups(self):
        for groups in (((6,),), ((6,), (6,)), ((6,), (6,), (6,))):
            self.assertEqual(cheapest_with_all(STANDS, groups), (1, 6, 7))

    def test_groups_that_share_a_variant(self):
        self.assertEqual(cheapest_with_all(STANDS, ((2, 3), (3, 6))), (1, 3, 6, 7))
        self.assertEqual(cheapest_with_all(STANDS, ((0, 2), (2, 5))), (0, 2, 7))
        self.assertEqual(cheapest_with_all(STANDS, ((2, 4), (4, 5), (4, 8))), (0, 4, 7))

    def test_one_part_counts_for_several_groups(self):
        family = (2, (0,), ((0, (1, 1), 0), (1, (), 2), (1, (), 2), (1, (), 2), (1, (), 0), (1, (), 6)))
        self.assertEqual(cheapest_with_all(family, ((1,), (2,))), (0, 1, 2))
        self.assertIsNone(cheapest_with_all(family, ((1,), (2,), (3,))))
        self.assertEqual(cheapest_with_all(family, ((1, 5), (2, 5), (3, 5))), (0, 4, 5))
        self.assertEqual(cheapest_with_all(family, ((1, 3), (2, 3), (3,))), (0, 3, 4))

    def test_three_groups_in_three_slots(self):
        family = (2, (0,), ((0, (1, 1, 1), 0), (1, (), 3), (1, (), 2), (1, (), 1), (1, (), 0)))
        self.assertEqual(cheapest_with_all(family, ((1,), (2,), (3,))), (0, 1, 2, 3))
        self.assertEqual(cheapest_with_all(family, ((3,), (1,))), (0, 1, 3, 4))

    def test_a_variant_twice_along_one_way_down(self):
        self.assertEqual(cheapest_with_all(RING, ((2,), (3,))), (0, 2, 0, 3, 1))
        self.assertEqual(cheapest_with_all(RING, ((2,), (3,), (4,))), (0, 2, 0, 3, 0, 4))
        chain = (1, (0,), ((0, (0,), 1), (0, (0,), 1), (0, (0,), 1), (0, (), 0)))
        self.assertEqual(cheapest_with_all(chain, ((1,), (0,), (2,))), (0, 1, 2, 3))

    def test_ties(self):
        products = in_order(TIES, all_products(TIES, 8))
        for groups in (((4,), (5,)), ((1,), (3,), (7,)), ((0,), (3,)), ((7,), (5,)), ((0, 3), (2, 4), (5, 7))):
            self.assertEqual(cheapest_with_all(TIES, groups), covering(products, groups)[0])

    def test_earlier_variants_decide_before_later_parts(self):
        # Both products have the same weight; which slot has the marked part is decided by the tuples.
        family = (3, (0,), ((0, (1, 2), 0), (2, (), 1), (1, (), 1), (1, (), 0), (2, (), 0), (1, (), 1)))
        self.assertEqual(cheapest_with_all(family, ((1, 2),)), (0, 2, 4))
        self.assertEqual(cheapest_with_all(family, ((1, 5),)), (0, 3, 1))
        family = (2, (0,), ((0, (1, 1), 0), (1, (), 0), (1, (), 0)))
        self.assertEqual(cheapest_with_all(family, ((2,),)), (0, 1, 2))
        self.assertEqual(cheapest_with_all(family, ((2,), (1,))), (0, 1, 2))

    def test_100_and_101_parts(self):
        row = row_of_100()
        self.assertEqual(len(cheapest_with_all(row, ((0,), (3,), (5,)))), 100)
        self.check_count(101, cheapest_with_all, row_of_101(), ((0,), (3,), (5,)))
        chain = (1, (0,), ((0, (0, 0), 0), (0, (), 0), (0, (0,), 1)))
        self.assertEqual(cheapest_with_all(chain, ((0,), (2,))), (0, 1, 2, 1))

    def test_more_than_10_to_18_parts(self):
        self.check_count(LONG_ROW_PARTS, cheapest_with_all, long_row(2), ((1,), (38,), (39,)))
        # Two of the long trees are needed.
        doubled = (42, (41,), long_row()[2] + ((40, (0,), 1), (40, (0,), 2), (41, (40, 40), 0)))
        self.check_count(2 * LONG_ROW_PARTS + 3, cheapest_with_all, doubled, ((40,), (41,)))

    def test_against_all_products_of_finite_families(self):
        chance = random.Random(31)
        some = 0
        for _ in range(800):
            family = finite_family_by_chance(chance, states=4, variants=9)
            flat = tuple(
                (plug, slots, None if price is None else chance.randint(0, 1)) for plug, slots, price in family[2]
            )
            for each in (family, family[:2] + (flat,)):
                groups = groups_by_chance(each, chance)
                wanted = covering(all_products(each, 15), groups)
                found = cheapest_with_all(each, groups)
                self.assertEqual(found, first_of(each, wanted))
                self.assertTrue(is_plain(found))
                if groups:
                    with_one = covering(all_products(each, 15), groups[:1])
                    self.assertEqual(cheapest_with(each, groups[0]), first_of(each, with_one))
                some += len(groups) > 1 and bool(wanted)
        self.assertGreater(some, 100)

    def test_against_products_of_families_with_infinitely_many(self):
        chance = random.Random(32)
        some = 0
        for family in families_by_chance(500, states=2, variants=6, slots=1, high=2, seed=33):
            groups = groups_by_chance(family, chance)
            # With one slot at most for each variant, two states are enough between a group and the next one.
            wanted = covering(all_products(family, 8), groups)
            self.assertEqual(cheapest_with_all(family, groups), first_of(family, wanted))
            some += len(groups) > 1 and bool(wanted)
        self.assertGreater(some, 20)


class TestCheapestWithout(TestCase):
    def test_example(self):
        self.assertEqual(cheapest_without(STANDS, (7,)), (1, 8))

    def test_no_marked_variant(self):
        for family in (STANDS, FORKS, FIXED, TIES, NOTHING):
            self.assertEqual(cheapest_without(family, ()), cheapest(family))

    def test_all_marked_variants(self):
        for family in (STANDS, FORKS, NOTHING):
            self.assertIsNone(cheapest_without(family, tuple(range(len(family[2])))))

    def test_missing_variants(self):
        family = (2, (0,), ((0, (), None), (0, (1,), 1), (1, (), 3), (0, (), 9)))
        self.assertEqual(cheapest_without(family, (0,)), (1, 2))
        self.assertEqual(cheapest_without(family, (0, 2)), (3,))
        self.assertIsNone(cheapest_without(family, (1, 3)))

    def test_100_and_more_parts(self):
        family = (6, (0,), row_of_100()[2] + ((0, (), 0),))
        self.assertEqual(len(cheapest_without(family, (6,))), 100)
        family = (7, (0,), row_of_101()[2] + ((0, (), 0),))
        self.assertEqual(cheapest_without(family, (1,)), (7,))
        self.check_count(101, cheapest_without, family, (7,))
        self.check_count(LONG_ROW_PARTS, cheapest_without, (40, (0,), long_row(1)[2] + ((0, (), 0),)), (40,))

    def test_the_family_is_not_changed(self):
        family = (1, (0,), ((0, (), 1), (0, (), 2)))
        self.assertEqual(cheapest_without(family, (0,)), (1,))
        self.assertEqual(family, (1, (0,), ((0, (), 1), (0, (), 2))))
        self.assertEqual(cheapest(family), (0,))

    def test_against_all_products_of_finite_families(self):
        chance = random.Random(34)
        some = 0
        for _ in range(300):
            family = finite_family_by_chance(chance, states=4, variants=9)
            marked = tuple(number for number in range(len(family[2])) if chance.random() < 0.3)
            wanted = [tree for tree in all_products(family, 15) if not any(number in tree for number in marked)]
            self.assertEqual(cheapest_without(family, marked), first_of(family, wanted))
            some += bool(marked and wanted)
        self.assertGreater(some, 100)


class TestFirstProducts(TestCase):
    def test_the_first_products_tell_the_same(self):
        chance = random.Random(35)
        for family in families_by_chance(100, states=2, variants=6, slots=1, high=3, seed=36):
            ordered = first_products(family, many=10 ** 6, most=8)
            self.assertEqual(cheapest(family), next(iter(ordered), None))
            for groups in (groups_by_chance(family, chance) for _ in range(3)):
                self.assertEqual(cheapest_with_all(family, groups), next(iter(covering(ordered, groups)), None))
            marked = next(iter(groups_by_chance(family, chance)), ())
            found = [tree for tree in ordered if not any(number in tree for number in marked)]
            self.assertEqual(cheapest_without(family, marked), next(iter(found), None))


class TestArgumentsAlone(TestCase):
    def test_one_after_another(self):
        check_independent(self, cheapest_with, (STANDS, (4, 5)), (STANDS, (6,)))
        check_independent(self, cheapest_with, (STANDS, (1,)), (FIXED, (1,)))
        check_independent(self, cheapest_with_all, (STANDS, ((6,), (5,))), (STANDS, ((6,),)))
        check_independent(self, cheapest_without, (STANDS, (7,)), (row_family((1, 2)), ()))
        check_independent(self, cheapest_without, (STANDS, (7,)), (STANDS, (0,)))


if __name__ == "__main__":
    unittest.main()
