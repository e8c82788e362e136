"""Tests of slotwise/explanations.py: points 300 to 302."""

import random
import unittest

from slotwise.explanations import explanation_of, is_feasible, kept_of
from tests.helpers import (
    NOTHING, STANDS, all_products, check_independent, demands_by_chance, finite_family_by_chance, is_plain, meets,
    names_by_chance, rank,
)

NAMES = (("top",), ("top",), ("end",), ("end",), ("end",), ("end",), ("end",), (), (), ())
THREE = ((("top",), (2, 3, 4, 5)), ((), (1,)), (("top", "end"), (7, 8)))
EVERYTHING = tuple(range(10))
TOP = ("top",)


class TestIsFeasible(unittest.TestCase):
    def test_examples(self):
        self.assertIs(is_feasible(STANDS, NAMES, THREE, 61), False)
        self.assertIs(is_feasible(STANDS, NAMES, THREE, 62), True)

    def test_budgets(self):
        for demands, least in (((), 36), (THREE, 62), (((TOP, (4, 5)),), 53)):
            self.assertIs(is_feasible(STANDS, NAMES, demands, None), True)
            self.assertIs(is_feasible(STANDS, NAMES, demands, least + 1), True)
            self.assertIs(is_feasible(STANDS, NAMES, demands, least), True)
            self.assertIs(is_feasible(STANDS, NAMES, demands, least - 1), False)
            self.assertIs(is_feasible(STANDS, NAMES, demands, 0), False)
        free = (1, (0,), ((0, (), 0),))
        self.assertIs(is_feasible(free, ((),), (), 0), True)
        self.assertIs(is_feasible(free, ((),), (((), (0,)),), 0), True)
        large = 10 ** 40 - 1
        dear = (2, (0,), ((0, (1,), large), (1, (), 0)))
        self.assertIs(is_feasible(dear, (("a",), ()), ((("a",), (1,)),), large), True)
        self.assertIs(is_feasible(dear, (("a",), ()), ((("a",), (1,)),), large - 1), False)

    def test_no_products(self):
        for budget in (None, 0, 10 ** 40 - 1):
            self.assertIs(is_feasible(NOTHING, (), (), budget), False)
            self.assertIs(is_feasible(STANDS, NAMES, ((TOP, ()),), budget), False)
            self.assertIs(is_feasible(STANDS, NAMES, ((("end",), EVERYTHING),), budget), False)


class TestExplanationOf(unittest.TestCase):
    def test_example(self):
        self.assertEqual(explanation_of(STANDS, NAMES, THREE, (("top", "end"), (2, 4, 7)), None), (0, 1))

    def test_everything_is_feasible(self):
        self.assertIsNone(explanation_of(STANDS, NAMES, THREE, (("top", "end"), (8,)), None))
        self.assertIsNone(explanation_of(STANDS, NAMES, THREE, (("top", "end"), (8,)), 62))
        self.assertIsNone(explanation_of(STANDS, NAMES, (), ((), (0,)), None))
        self.assertIsNone(explanation_of(STANDS, NAMES, THREE, (("top", "end"), (7, 8)), 62))
        self.assertEqual(explanation_of(STANDS, NAMES, THREE, (("top", "end"), (7, 8)), 61), (0, 1))

    def test_the_further_demand_alone_is_not_feasible(self):
        for demands in ((), THREE, (((), ()),)):
            self.assertEqual(explanation_of(STANDS, NAMES, demands, (("end",), EVERYTHING), None), ())
            self.assertEqual(explanation_of(STANDS, NAMES, demands, (TOP, ()), None), ())
            self.assertEqual(explanation_of(STANDS, NAMES, demands, ((), (0, 1)), 35), ())
            self.assertEqual(explanation_of(NOTHING, (), (), ((), ()), None), ())

    def test_equal_demands(self):
        large = ((), (1,))
        self.assertEqual(explanation_of(STANDS, NAMES, (large,) * 8, (TOP, (7,)), None), (0,))
        demands = (((), (0, 1)), large, large)
        self.assertEqual(explanation_of(STANDS, NAMES, demands, ((), (0,)), None), (1,))

    def test_later_demands_are_left_out_before_earlier_ones(self):
        # Each of the two demands alone rules the further one out.
        first, second = ((), (1,)), (TOP, (2, 4, 7))
        self.assertEqual(explanation_of(STANDS, NAMES, (first, second), (TOP, (8, 6)), None), (1,))
        first, second = ((), (1,)), (TOP, (6, 8))
        for demands in ((first, second), (second, first)):
            self.assertEqual(explanation_of(STANDS, NAMES, demands, (TOP, (7,)), None), (0,))

    def test_a_demand_that_is_not_feasible_itself(self):
        demands = (((), (0, 1)), (TOP, ()), ((), (0,)))
        self.assertEqual(explanation_of(STANDS, NAMES, demands, ((), (0, 1)), None), (1,))
        self.assertEqual(explanation_of(STANDS, NAMES, demands, ((), (1,)), None), (1,))
        self.assertEqual(explanation_of(STANDS, NAMES, demands[2:], ((), (1,)), None), (0,))


class TestKeptOf(unittest.TestCase):
    def test_example(self):
        self.assertEqual(kept_of(STANDS, NAMES, THREE, (("top", "end"), (2, 4, 7)), None), (1, 2))

    def test_everything_is_feasible(self):
        self.assertEqual(kept_of(STANDS, NAMES, THREE, (("top", "end"), (8,)), 62), (0, 1, 2))
        self.assertEqual(kept_of(STANDS, NAMES, (), ((), (0,)), None), ())

    def test_the_further_demand_alone_is_not_feasible(self):
        for demands in ((), THREE):
            self.assertIsNone(kept_of(STANDS, NAMES, demands, (("end",), EVERYTHING), None))
            self.assertIsNone(kept_of(STANDS, NAMES, demands, (TOP, ()), None))
            self.assertIsNone(kept_of(STANDS, NAMES, demands, ((), (0, 1)), 35))
        self.assertIsNone(kept_of(NOTHING, (), (), ((), ()), None))

    def test_no_demand_is_feasible(self):
        self.assertEqual(kept_of(STANDS, NAMES, (((), ()), (TOP, (9,))), ((), (0,)), None), ())

    def test_equal_demands(self):
        large, small = ((), (1,)), ((), (0,))
        demands = (large, small, large, small, large)
        self.assertEqual(kept_of(STANDS, NAMES, demands, (TOP, (8,)), None), (0, 2, 4))
        self.assertEqual(kept_of(STANDS, NAMES, demands, (TOP, EVERYTHING), None), (0, 2, 4))
        self.assertEqual(kept_of(STANDS, NAMES, demands[:4], (TOP, EVERYTHING), None), (1, 3))

    def test_the_budget(self):
        demands = (((), (1,)), (TOP, (2, 3, 4, 5)))
        self.assertEqual(kept_of(STANDS, NAMES, demands, ((), (0, 1)), 57), (0, 1))
        self.assertEqual(kept_of(STANDS, NAMES, demands, ((), (0, 1)), 56), (1,))
        self.assertEqual(kept_of(STANDS, NAMES, demands, ((), (0, 1)), 47), (0,))
        self.assertEqual(kept_of(STANDS, NAMES, demands, ((), (0, 1)), 44), ())
        self.assertEqual(kept_of(STANDS, NAMES, demands[::-1], ((), (0, 1)), 56), (1,))


class TestAgainstAllProducts(unittest.TestCase):
    def test_families_by_chance(self):
        chance = random.Random(9)
        seen = {"explained": 0, "kept": 0}
        for _ in range(300):
            family = finite_family_by_chance(chance, states=3)
            names = names_by_chance(family, chance)
            demands = demands_by_chance(family, chance, most=5)
            demand = (demands_by_chance(family, chance, most=1) or (((), EVERYTHING[:len(family[2])]),))[0]
            budget = chance.choice((None, None, 0, 3, 5, 8))
            within = [tree for tree in all_products(family, 7) if budget is None or rank(family, tree)[0] <= budget]

            def fits(chosen):
                return any(meets(family, names, tree, chosen) for tree in within)

            arguments = (family, names, demands, demand, budget)
            self.assertIs(is_feasible(family, names, demands, budget), fits(demands))
            explanation = explanation_of(*arguments)
            kept = kept_of(*arguments)
            self.assertTrue(is_plain((explanation, kept)))
            self.assertEqual(explanation, self.deleted(fits, demands, demand))
            self.assertEqual(kept, self.added(fits, demands, demand))
            seen["explained"] += bool(explanation)
            seen["kept"] += bool(kept) and len(kept) < len(demands)
        self.assertGreater(min(seen.values()), 20)

    def deleted(self, fits, demands, demand):
        """The explanation by the words of point 301."""
        left = dict(enumerate(demands))
        if fits(demands + (demand,)):
            return None
        for number in range(len(demands) - 1, -1, -1):
            removed = left.pop(number)
            if fits(tuple(left.values()) + (demand,)):
                left[number] = removed
        return tuple(sorted(left))

    def added(self, fits, demands, demand):
        """The kept demands by the words of point 302."""
        if not fits((demand,)):
            return None
        kept = {}
        for number in range(len(demands) - 1, -1, -1):
            if fits((demands[number], demand, *kept.values())):
                kept[number] = demands[number]
        return tuple(sorted(kept))


class TestArgumentsAlone(unittest.TestCase):
    def test_one_question_after_another(self):
        check_independent(self, is_feasible, (STANDS, NAMES, THREE, 62), (STANDS, NAMES, THREE, 61))
        further = (("top", "end"), (2, 4, 7))
        for ask in (explanation_of, kept_of):
            check_independent(
                self, ask, (STANDS, NAMES, THREE, further, None), (STANDS, NAMES, THREE[::-1], further, None)
            )


if __name__ == "__main__":
    unittest.main()
