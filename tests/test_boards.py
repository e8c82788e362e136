"""Tests of slotwise/boards.py: point 124, with 105 and 120 to 123."""

import random
import unittest

from slotwise.boards import Board
from slotwise.errors import TooManyParts
from slotwise.least import cheapest, least_weights
from tests.helpers import (
    EMPTY_SLOTS, FORKS, LONG_ROW_PARTS, NOTHING, STANDS, families_by_chance, is_plain, long_row, row_of_101,
)


def repriced(family, variant, price):
    """The family with this price for the variant."""
    rows = list(family[2])
    rows[variant] = rows[variant][:2] + (price,)
    return family[:2] + (tuple(rows),)


def changed(first, second):
    """The states whose least weights differ between the families."""
    pairs = zip(least_weights(first), least_weights(second))
    return tuple(state for state, (one, other) in enumerate(pairs) if one != other)


class TestCase(unittest.TestCase):
    def check_board(self, board, family, changes):
        """Check that the board is what follows from its family in force."""
        self.assertEqual(board.family, family)
        self.assertEqual(board.weights, least_weights(family))
        self.assertEqual(board.cheapest(), cheapest(family))
        self.assertEqual(board.changes, changes)
        self.assertTrue(is_plain((board.family, board.weights, board.cheapest(), board.changes)))


class TestBoard(TestCase):
    def test_example(self):
        board = Board(STANDS)
        self.assertEqual(board.reprice(7, 11), (0, 1, 2))
        self.assertEqual(board.weights, ((41, 2), (11, 1), (15, 1), (1, 1)))
        self.assertEqual(board.reprice(9, None), (3,))
        self.assertEqual(board.undo(), (3,))
        self.assertEqual(board.cheapest(), (0, 7))
        self.assertEqual(board.changes, 1)

    def test_a_new_board(self):
        for family in (STANDS, FORKS, NOTHING, EMPTY_SLOTS):
            board = Board(family)
            self.check_board(board, family, 0)
            self.assertIsNone(board.undo())
            self.check_board(board, family, 0)

    def test_higher_lower_and_equal_prices(self):
        board = Board(STANDS)
        self.assertEqual(board.reprice(8, 16), ())
        self.assertEqual(board.reprice(8, 9), (2,))
        self.assertEqual(board.reprice(8, 9), ())
        self.assertEqual(board.reprice(8, 0), (0, 2))
        self.assertEqual(board.cheapest(), (1, 8))
        self.check_board(board, repriced(STANDS, 8, 0), 4)

    def test_only_the_number_of_parts_changes(self):
        board = Board(STANDS)
        self.assertEqual(board.reprice(8, 10), (2,))
        self.assertEqual(board.weights[2], (10, 1))

    def test_to_none_and_back(self):
        board = Board(STANDS)
        self.assertEqual(board.reprice(7, None), (0, 1, 2))
        self.assertEqual(board.weights, ((50, 2), None, (15, 1), (1, 1)))
        self.assertEqual(board.reprice(7, None), ())
        self.assertEqual(board.reprice(8, None), (0, 2))
        self.assertIsNone(board.cheapest())
        self.assertEqual(board.weights, (None, None, None, (1, 1)))
        self.assertEqual(board.reprice(7, 6), (0, 1, 2))
        self.check_board(board, repriced(STANDS, 8, None), 4)

    def test_a_state_that_gets_its_first_tree(self):
        board = Board(EMPTY_SLOTS)
        self.assertEqual(board.weights, (None, None))
        self.assertEqual(board.reprice(2, 0), (0, 1))
        self.assertEqual(board.weights, ((2, 2), (0, 1)))
        self.assertEqual(board.reprice(2, None), (0, 1))
        self.assertIsNone(board.cheapest())

    def test_states_that_need_one_another(self):
        # Without variant 2 neither state has a tree, although each has a variant with the other one in its slot.
        board = Board((2, (0,), ((0, (1,), 0), (1, (0,), 0), (1, (), 0))))
        self.assertEqual(board.reprice(2, None), (0, 1))
        self.assertEqual(board.weights, (None, None))

    def test_undo_until_nothing_can_be_undone(self):
        board = Board(STANDS)
        families = [STANDS]
        for variant, price in ((7, 11), (7, 11), (7, None), (0, 10 ** 40 - 1), (8, 0), (7, 6)):
            board.reprice(variant, price)
            families.append(repriced(families[-1], variant, price))
        while len(families) > 1:
            self.check_board(board, families[-1], len(families) - 1)
            undone = families.pop()
            self.assertEqual(board.undo(), changed(undone, families[-1]))
        self.check_board(board, STANDS, 0)
        self.assertIsNone(board.undo())
        self.assertIsNone(board.undo())
        self.assertEqual(board.reprice(9, 2), (3,))
        self.assertEqual(board.changes, 1)

    def test_many_repricings(self):
        board = Board(FORKS)
        for price in range(250):
            self.assertEqual(board.reprice(1, price), (0,))
        self.assertEqual(board.changes, 250)
        for _ in range(250):
            self.assertIsNotNone(board.undo())
        self.check_board(board, FORKS, 0)

    def test_too_many_parts(self):
        larger = row_of_101()
        board = Board(larger)
        with self.assertRaises(TooManyParts) as caught:
            board.cheapest()
        self.assertEqual(caught.exception.count, 101)
        self.assertEqual(board.weights, least_weights(larger))
        last = len(larger[2]) - 1
        board.reprice(last, None)
        self.assertIsNone(board.cheapest())
        board.undo()
        with self.assertRaises(TooManyParts):
            board.cheapest()
        board = Board(long_row())
        with self.assertRaises(TooManyParts) as caught:
            board.cheapest()
        self.assertEqual(caught.exception.count, LONG_ROW_PARTS)

    def test_two_boards_of_one_family(self):
        one = Board(STANDS)
        other = Board(STANDS)
        one.reprice(7, None)
        self.check_board(other, STANDS, 0)
        other.reprice(8, 1)
        other.reprice(9, 1)
        self.check_board(one, repriced(STANDS, 7, None), 1)
        self.check_board(other, repriced(STANDS, 8, 1), 2)
        one.undo()
        self.check_board(other, repriced(STANDS, 8, 1), 2)
        self.check_board(one, STANDS, 0)

    def test_what_was_handed_out_stays_as_it_was(self):
        board = Board(STANDS)
        family, weights = board.family, board.weights
        board.reprice(7, 1)
        self.assertEqual((family, weights), (STANDS, ((36, 2), (6, 1), (10, 2), (1, 1))))


class TestByChance(TestCase):
    def test_against_the_functions_for_families(self):
        chance = random.Random(11)
        for family in families_by_chance(60, states=4, variants=9, slots=3, seed=12):
            board = Board(family)
            families = [family]
            for _ in range(25 if family[2] else 0):
                if chance.random() < 0.3:
                    undone = families.pop() if len(families) > 1 else None
                    self.assertEqual(board.undo(), None if undone is None else changed(undone, families[-1]))
                else:
                    variant = chance.randrange(len(family[2]))
                    price = chance.choice((None, None, 0, 1, 2, 3, 4, 9))
                    families.append(repriced(families[-1], variant, price))
                    self.assertEqual(board.reprice(variant, price), changed(families[-2], families[-1]))
                self.check_board(board, families[-1], len(families) - 1)


if __name__ == "__main__":
    unittest.main()
