"""Tests of slotwise/surplus.py: point 203, with 140, 200 and 201."""

import unittest

from slotwise.greatest import greatest_prices
from slotwise.surplus import surplus
from slotwise.useful import useful_variants
from tests.helpers import (
    EMPTY_SLOTS, FIXED, FORKS, NOTHING, STANDS, families_by_chance, is_plain, long_row, row_family,
)

UNBOUNDED = "unbounded"


def leaf(state, price=0):
    """A variant without slots."""
    return (state, (), price)


class TestSurplus(unittest.TestCase):
    def check_surplus(self, family, state):
        """Check each line of point 203 for what is returned, and return it."""
        found = surplus(family, state)
        self.assertIsInstance(found, tuple)
        self.assertTrue(is_plain(found))
        numbers = [number for number, _ in found]
        self.assertEqual(numbers, sorted(set(numbers)))
        self.assertTrue(all(many >= 1 for _, many in found))
        # The parts of trees at the state are what is useful if the state is the only root.
        self.assertLessEqual(set(numbers), set(useful_variants((family[0], (state,), family[2]))))
        made = [0] * family[0]
        needed = [0] * family[0]
        gain = 0
        for number, many in found:
            plug, slots, price = family[2][number]
            made[plug] += many
            for other in slots:
                needed[other] += many
            gain += many * price
        self.assertEqual(made, needed)
        self.assertGreater(gain, 0)
        return found

    def check_all_states(self, family):
        """Check that there is a surplus at exactly the states with unbounded prices."""
        for state, price in enumerate(greatest_prices(family)):
            if price == UNBOUNDED:
                self.check_surplus(family, state)
            else:
                self.assertIsNone(surplus(family, state))

    def test_examples(self):
        self.assertIsNone(surplus(FIXED, 0))
        self.assertIsNone(surplus((1, (0,), ((0, (0,), 0), (0, (), 1))), 0))
        found = self.check_surplus((1, (0,), ((0, (0,), 3), (0, (), 1))), 0)
        self.assertEqual([number for number, _ in found], [0])

    def test_bounded_prices(self):
        for family in (FIXED, row_family((2, 3, 1), 4), long_row(3), NOTHING, EMPTY_SLOTS):
            for state in range(family[0]):
                self.assertIsNone(surplus(family, state))
        self.assertIsNone(surplus(STANDS, 3))

    def test_unbounded_prices(self):
        for family in (STANDS, FORKS):
            self.check_all_states(family)

    def test_cycles_that_cost_0_or_less(self):
        for price, unbounded in ((-1, False), (0, False), (1, True)):
            family = (2, (0,), ((0, (1,), 5), (1, (0,), price - 5), leaf(0, 3), leaf(1, -2)))
            self.assertEqual(surplus(family, 0) is not None, unbounded)
            self.check_all_states(family)
        self.check_all_states((1, (0,), ((0, (0, 0), 2), leaf(0, -2))))
        self.check_all_states((1, (0,), ((0, (0, 0), 3), leaf(0, -2))))

    def test_a_cycle_that_costs_more_than_0_only_by_what_is_beside_it(self):
        family = (3, (0,), ((0, (0, 1), -5), leaf(0), (1, (2,), 3), leaf(2, 2), leaf(2, 1)))
        self.check_all_states(family)
        self.assertIsNone(surplus(family, 0))
        family = (3, (0,), ((0, (0, 1), -5), leaf(0), (1, (2,), 3), leaf(2, 3), leaf(2, 1)))
        self.assertEqual(self.check_surplus(family, 0), ((0, 1), (2, 1), (3, 1)))
        self.assertIsNone(surplus(family, 1))

    def test_the_other_slots_are_filled_as_dearly_as_it_takes(self):
        # Only if the slot beside the cycle has the dear tree of two parts, the cycle costs more than 0.
        family = (2, (0,), ((0, (1, 0), -4), leaf(0, -9), leaf(1, 1), (1, (1,), 0), (1, (1, 1), 3), leaf(1, -9)))
        self.check_all_states(family)

    def test_a_cycle_through_several_slots_and_states(self):
        family = (4, (0,), (
            (0, (3, 1, 3), -2), (1, (2, 2), 1), (2, (3, 0, 3), 1), leaf(2, -4), leaf(3, 1), leaf(3, 0), leaf(0, 0),
        ))
        found = self.check_surplus(family, 0)
        self.assertLessEqual({0, 1, 2, 4}, {number for number, _ in found})
        self.check_all_states(family)
        # With a cheaper leaf beside it, the cycle is not worth it any more.
        self.check_all_states((4, (0,), family[2][:3] + (leaf(2, -5),) + family[2][4:]))

    def test_the_same_state_in_all_slots(self):
        for price in range(-3, 4):
            self.check_all_states((1, (0,), ((0, (0, 0, 0), price), leaf(0, 1), leaf(0, -1))))
            self.check_all_states((1, (0,), ((0, (0, 0, 0), price), leaf(0, -1))))

    def test_a_surplus_that_is_reached_only_through_other_states(self):
        family = (5, (0,), ((0, (1,), -8), (1, (2, 4), 0), leaf(1, 2), (2, (3,), 1), (3, (2,), 0), leaf(3), leaf(4)))
        for state in range(4):
            self.check_surplus(family, state)
        self.assertIsNone(surplus(family, 4))
        self.check_all_states(family)

    def test_cycles_that_cannot_be_filled_or_are_not_reached(self):
        family = (4, (0,), ((0, (1, 2), 1), (1, (1,), 1), leaf(1, 1), leaf(0, 4), (3, (1, 1), -9)))
        self.assertIsNone(surplus(family, 0))
        self.assertIsNone(surplus(family, 2))
        self.check_surplus(family, 1)
        self.check_surplus(family, 3)
        self.check_all_states(family)

    def test_missing_variants(self):
        self.assertIsNone(surplus((1, (0,), ((0, (0,), None), leaf(0, 1))), 0))
        self.check_all_states((2, (0,), ((0, (1,), 1), (1, (0,), None), (1, (0,), 1), leaf(1, -3))))

    def test_long_cycles(self):
        ring = tuple((state, ((state + 1) % 40,), 1 if state == 39 else 0) for state in range(40))
        self.check_all_states((40, (0,), ring))
        family = (40, (0,), ring + (leaf(20),))
        self.check_all_states(family)
        self.assertEqual(self.check_surplus(family, 7), tuple((state, 1) for state in range(40)))
        level = ring[:39] + ((39, (0,), 0), leaf(20, 7))
        self.check_all_states((40, (0,), level))

    def test_more_parts_than_can_be_built(self):
        # The cycle from the last state to the first one has a whole row beside it.
        rows = long_row(1)[2][:-1] + ((39, (0,), 0), leaf(39, 1))
        found = self.check_surplus((40, (0,), rows), 0)
        self.assertGreater(sum(many for _, many in found), 10 ** 18)
        self.check_all_states((40, (0,), long_row(-1)[2][:-1] + ((39, (0,), 0), leaf(39, 1))))

    def test_families_by_chance(self):
        unbounded = bounded = 0
        for slots, high, seed in ((1, 2, 71), (2, 2, 72), (3, 1, 73), (2, 4, 74), (3, 3, 75)):
            for family in families_by_chance(300, states=5, variants=14, slots=slots, low=-5, high=high, seed=seed):
                self.check_all_states(family)
                prices = greatest_prices(family)
                unbounded += UNBOUNDED in prices
                bounded += any(isinstance(price, int) for price in prices)
        self.assertGreater(unbounded, 150)
        self.assertGreater(bounded, 500)


class TestArgumentsAlone(unittest.TestCase):
    def test_one_after_another(self):
        chain = (1, (0,), ((0, (0,), 3), leaf(0, 1)))
        first = surplus(STANDS, 0)
        self.assertEqual([surplus(family, 0) for family in (chain, FORKS, FIXED)][2], None)
        self.assertEqual(surplus(STANDS, 0), first)
        self.assertEqual(surplus(chain, 0), surplus(chain, 0))


if __name__ == "__main__":
    unittest.main()
