"""Tests of slotwise/conflicts.py: point 303, with 300 to 302."""

import itertools
import random
import unittest

from slotwise.conflicts import conflicts_of, corrections_of
from tests.helpers import (
    NOTHING, STANDS, all_products, check_independent, demands_by_chance, finite_family_by_chance, is_plain, meets,
    names_by_chance, rank,
)

NAMES = (("top",), ("top",), ("end",), ("end",), ("end",), ("end",), ("end",), (), (), ())
TOP = ("top",)
THREE = ((TOP, (2, 3, 4, 5)), ((), (1,)), (("top", "end"), (7, 8)))
# The first two of these rule each other out.
SMALL, LARGE, NEVER = ((), (0,)), ((), (1,)), ((), ())
FAN = (2, (0,), ((0, (1, 1, 1), 0), (1, (), 1), (1, (), 0)))
FAN_NAMES = (("a", "b", "c"), (), ())


def all_sets(many):
    """All sets of numbers below `many`, shorter ones first, equally long ones ascending."""
    return [numbers for size in range(many + 1) for numbers in itertools.combinations(range(many), size)]


def told_conflicts(many, feasible):
    """All conflicts, exactly as point 303 tells; `feasible` tells whether a set of demands is feasible."""
    return tuple(
        numbers for numbers in all_sets(many)
        if not feasible(numbers)
        and all(feasible(fewer) for size in range(len(numbers)) for fewer in itertools.combinations(numbers, size))
    )


def told_corrections(many, feasible):
    """All corrections, exactly as point 303 tells."""
    def corrects(numbers):
        return feasible(tuple(number for number in range(many) if number not in numbers))

    return tuple(
        numbers for numbers in all_sets(many)
        if corrects(numbers)
        and not any(corrects(fewer) for size in range(len(numbers)) for fewer in itertools.combinations(numbers, size))
    )


class TestConflicts(unittest.TestCase):
    def check(self, demands, budget, conflicts, corrections):
        """Check the conflicts and the corrections of demands for lamp stands."""
        self.assertEqual(conflicts_of(STANDS, NAMES, demands, budget), conflicts)
        self.assertEqual(corrections_of(STANDS, NAMES, demands, budget), corrections)

    def test_examples(self):
        self.check(THREE, 50, ((0, 1),), ((0,), (1,)))
        self.check(THREE, 35, ((),), ())

    def test_no_product_within_the_budget(self):
        for demands in ((), THREE, (NEVER,), (SMALL, LARGE)):
            self.check(demands, 35, ((),), ())
            self.check(demands, 0, ((),), ())
            for budget in (None, 0, 99):
                self.assertEqual(conflicts_of(NOTHING, (), (((), ()),) * len(demands), budget), ((),))
                self.assertEqual(corrections_of(NOTHING, (), (((), ()),) * len(demands), budget), ())

    def test_all_demands_feasible(self):
        for budget in (None, 62, 10 ** 39):
            self.check(THREE, budget, (), ((),))
        self.check((SMALL,) * 5, 36, (), ((),))

    def test_no_demand(self):
        for budget in (None, 36, 50):
            self.check((), budget, (), ((),))

    def test_one_demand_that_is_not_feasible(self):
        self.check((NEVER,), None, ((0,),), ((0,),))
        self.check((SMALL, NEVER, LARGE), None, ((1,), (0, 2)), ((0, 1), (1, 2)))

    def test_equal_demands(self):
        self.check((SMALL, LARGE, SMALL), None, ((0, 1), (1, 2)), ((1,), (0, 2)))
        self.check((SMALL, SMALL, LARGE, LARGE), None, ((0, 2), (0, 3), (1, 2), (1, 3)), ((0, 1), (2, 3)))
        self.check((NEVER, NEVER), None, ((0,), (1,)), ((0, 1),))

    def test_five_demands(self):
        demands = (SMALL, LARGE, (TOP, (7,)), (TOP, (2, 4)), (TOP, (8, 6)))
        conflicts = ((0, 1), (0, 4), (1, 2), (1, 3), (2, 3), (2, 4), (3, 4))
        self.check(demands, None, conflicts, ((0, 2, 3), (1, 2, 4), (1, 3, 4)))

    def test_the_order_of_the_sets(self):
        demands = (LARGE, NEVER, (TOP, (7,)), SMALL)
        self.check(demands, None, ((1,), (0, 2), (0, 3)), ((0, 1), (1, 2, 3)))

    def test_conflicts_of_three_demands(self):
        # Each demand costs 1 more; only all three together cost more than the budget.
        demands = tuple(((name,), (1,)) for name in "abc")
        for budget, conflicts, corrections in (
            (None, (), ((),)), (3, (), ((),)), (2, ((0, 1, 2),), ((0,), (1,), (2,))),
            (1, ((0, 1), (0, 2), (1, 2)), ((0, 1), (0, 2), (1, 2))), (0, ((0,), (1,), (2,)), ((0, 1, 2),)),
        ):
            self.assertEqual(conflicts_of(FAN, FAN_NAMES, demands, budget), conflicts)
            self.assertEqual(corrections_of(FAN, FAN_NAMES, demands, budget), corrections)

    def test_somewhat_more_demands(self):
        demands = (SMALL, LARGE) * 3
        pairs = tuple(pair for pair in itertools.combinations(range(6), 2) if sum(pair) % 2)
        self.check(demands, None, pairs, ((0, 2, 4), (1, 3, 5)))

    def check_sets(self, family, names, demands, budget):
        """Check what is found against all products and all sets of demands; returns the conflicts."""
        products = [tree for tree in all_products(family, 15) if budget is None or rank(family, tree)[0] <= budget]

        def feasible(numbers):
            return any(meets(family, names, tree, [demands[number] for number in numbers]) for tree in products)

        conflicts = conflicts_of(family, names, demands, budget)
        corrections = corrections_of(family, names, demands, budget)
        self.assertEqual(conflicts, told_conflicts(len(demands), feasible))
        self.assertEqual(corrections, told_corrections(len(demands), feasible))
        self.assertTrue(is_plain((conflicts, corrections)))
        for conflict in conflicts:
            for correction in corrections:
                self.assertTrue(set(conflict) & set(correction))
        return conflicts

    def test_against_all_sets_of_demands(self):
        chance = random.Random(101)
        none = some = nothing = 0
        for _ in range(400):
            family = finite_family_by_chance(chance, states=4, variants=10)
            names = names_by_chance(family, chance)
            demands = demands_by_chance(family, chance, most=5)
            if len(demands) > 2 and chance.random() < 0.3:
                demands = demands[:-1] + demands[:1]
            conflicts = self.check_sets(family, names, demands, chance.choice((None, None, 0, 3, 6, 9)))
            none += conflicts == ()
            nothing += conflicts == ((),)
            some += conflicts not in ((), ((),))
        self.assertGreater(none, 50)
        self.assertGreater(nothing, 30)
        self.assertGreater(some, 80)

    def test_against_all_sets_of_demands_for_three_slots(self):
        chance = random.Random(102)
        long = 0
        for _ in range(150):
            leaves = tuple((1, (), chance.randint(0, 4)) for _ in range(4))
            family = (2, (0,), ((0, (1, 1, 1), 0),) + leaves)
            demands = tuple(
                ((name,), tuple(sorted(chance.sample((1, 2, 3, 4), chance.randint(1, 3))))) for name in "abcba"
            )
            conflicts = self.check_sets(family, FAN_NAMES + ((), ()), demands, chance.randint(2, 8))
            long += any(len(conflict) > 2 for conflict in conflicts)
        self.assertGreater(long, 8)


class TestArgumentsAlone(unittest.TestCase):
    def test_one_after_another(self):
        check_independent(self, conflicts_of, (STANDS, NAMES, THREE, 50), (STANDS, NAMES, THREE, 35))
        check_independent(self, conflicts_of, (STANDS, NAMES, THREE, 50), (STANDS, NAMES, THREE[::-1], 50))
        check_independent(self, corrections_of, (STANDS, NAMES, THREE, 50), (STANDS, NAMES, THREE, None))


if __name__ == "__main__":
    unittest.main()
