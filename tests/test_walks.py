"""Tests of slotwise/walks.py: point 261, with 103 and 260."""

import unittest

from slotwise.ranking import first_products
from slotwise.walks import Walk
from tests.helpers import (
    EMPTY_SLOTS, FIXED, FORKS, NOTHING, STANDS, all_products, families_by_chance, in_order, is_plain,
)

THREES = (2, (0,), ((0, (0, 1, 0), -2), (0, (), 1), (1, (), 3), (1, (1,), -1), (0, (), 1)))
FREE = (1, (0,), ((0, (0, 0), 0), (0, (), 0), (0, (), 0)))


class TestWalk(unittest.TestCase):
    def check_end(self, walk, given):
        """Check that the walk is at its end and stays there."""
        for _ in range(3):
            self.assertIsNone(walk.step())
            self.assertEqual(walk.take(0), ())
            self.assertEqual(walk.take(7), ())
            self.assertEqual(walk.given, given)

    def test_example(self):
        walk = Walk(STANDS, 2)
        self.assertEqual(walk.step(), (0, 7))
        self.assertEqual(walk.take(5), ((1, 8),))
        self.check_end(walk, 2)

    def test_a_new_walk(self):
        for family in (STANDS, NOTHING):
            walk = Walk(family, 4)
            self.assertEqual(walk.given, 0)
            self.assertEqual(walk.take(0), ())
            self.assertEqual(walk.given, 0)

    def test_no_product(self):
        for family in (NOTHING, EMPTY_SLOTS, (4, (), STANDS[2])):
            self.check_end(Walk(family, 10), 0)
        self.check_end(Walk(STANDS, 1), 0)

    def test_fewer_products_than_asked_for(self):
        walk = Walk(FIXED, 10)
        self.assertEqual(walk.take(60), ((0, 3), (1, 2, 3), (1, 4)))
        self.check_end(walk, 3)
        walk = Walk(FIXED, 2)
        self.assertEqual(walk.take(3), ((0, 3), (1, 4)))
        self.check_end(walk, 2)

    def test_exactly_as_many_as_there_are(self):
        walk = Walk(FIXED, 10)
        self.assertEqual(walk.take(3), ((0, 3), (1, 2, 3), (1, 4)))
        self.check_end(walk, 3)
        # 8 products, and 16 of them.
        for many in (8, 16):
            family = (1, (0,), tuple((0, (), number) for number in range(many)))
            walk = Walk(family, 1)
            self.assertEqual([walk.step() for _ in range(many)], [(number,) for number in range(many)])
            self.check_end(walk, many)

    def test_steps_and_takes_by_turns(self):
        expected = in_order(STANDS, all_products(STANDS, 8))
        walk = Walk(STANDS, 8)
        found = []
        for many in (0, 1, 2, 3, 0, 5, 8, 13):
            found.extend(walk.take(many))
            self.assertEqual(walk.given, len(found))
            found.append(walk.step())
            self.assertEqual(walk.given, len(found))
        self.assertEqual(found, expected[:40])
        self.assertTrue(is_plain(tuple(found)))

    def test_sixty_products(self):
        expected = tuple(in_order(STANDS, all_products(STANDS, 10))[:60])
        self.assertEqual(Walk(STANDS, 10).take(60), expected)
        walk = Walk(STANDS, 10)
        self.assertEqual(tuple(walk.step() for _ in range(60)), expected)
        self.assertEqual(walk.given, 60)
        walk = Walk(STANDS, 10)
        self.assertEqual(walk.take(59) + walk.take(1), expected)

    def test_somewhat_more_than_sixty_products(self):
        expected = tuple(in_order(STANDS, all_products(STANDS, 8))[:90])
        walk = Walk(STANDS, 8)
        self.assertEqual(walk.take(60) + walk.take(25) + tuple(walk.step() for _ in range(5)), expected)

    def test_several_walks_by_turns(self):
        expected = in_order(FORKS, all_products(FORKS, 9))
        one, other, short = Walk(FORKS, 9), Walk(FORKS, 9), Walk(FORKS, 3)
        self.assertEqual(one.take(3), tuple(expected[:3]))
        self.assertEqual(other.step(), expected[0])
        self.assertEqual(short.take(9), tuple(expected[:2]))
        self.assertEqual(one.step(), expected[3])
        self.assertEqual(other.take(2), tuple(expected[1:3]))
        self.assertIsNone(short.step())
        self.assertEqual((one.given, other.given, short.given), (4, 3, 2))
        self.assertEqual(one.take(60), tuple(expected[4:]))
        self.assertEqual(other.take(60), tuple(expected[3:]))

    def test_ties_in_price_and_in_number_of_parts(self):
        expected = tuple(in_order(FREE, all_products(FREE, 9))[:60])
        self.assertEqual(Walk(FREE, 9).take(60), expected)
        walk = Walk(FREE, 9)
        self.assertEqual(tuple(walk.step() for _ in range(60)), expected)

    def test_negative_prices(self):
        expected = tuple(in_order(THREES, all_products(THREES, 8))[:60])
        self.assertLess(sum(THREES[2][number][2] for number in expected[0]), 0)
        walk = Walk(THREES, 8)
        self.assertEqual(tuple(walk.step() for _ in range(20)) + walk.take(40), expected)

    def test_each_number_of_parts(self):
        for most in range(1, 11):
            expected = tuple(in_order(FORKS, all_products(FORKS, most))[:60])
            walk = Walk(FORKS, most)
            self.assertEqual(walk.take(60), expected)
            if len(expected) < 60:
                self.check_end(walk, len(expected))

    def test_several_roots(self):
        family = (3, (0, 1), ((1, (2,), 1), (0, (2,), 1), (2, (), 3), (0, (), 4), (1, (), 4), (2, (), 3)))
        self.assertEqual(Walk(family, 2).take(60), ((3,), (4,), (0, 2), (0, 5), (1, 2), (1, 5)))

    def test_against_all_products(self):
        for family in families_by_chance(80, slots=3, low=-2, high=2, seed=91):
            expected = in_order(family, all_products(family, 6))[:60]
            walk = Walk(family, 6)
            found = list(walk.take(2)) + [tree for tree in (walk.step() for _ in range(3)) if tree is not None]
            found.extend(walk.take(60 - len(found)))
            self.assertEqual(found, expected)
            self.assertEqual(tuple(found), first_products(family, many=60, most=6))


if __name__ == "__main__":
    unittest.main()
