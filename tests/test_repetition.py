"""Tests of slotwise/repetition.py: points 220 to 223, with 105 and 140."""

import unittest

from slotwise.errors import NotInside, StatesDiffer, TooManyParts
from slotwise.repetition import find_repetition, first_way, repeat_part
from slotwise.trees import is_product, is_tree, places_of, span_of
from slotwise.useful import useful_variants
from tests.helpers import EMPTY_SLOTS, FIXED, FORKS, LONG_ROW_PARTS, NOTHING, STANDS
from tests.helpers import all_products, all_trees, check_independent, families_by_chance, in_order, is_plain
from tests.helpers import long_row, row_family


def all_ways(family, starts, goal, least, most):
    """All ways with at least `least` and at most `most` steps, by trying everything."""
    useful = useful_variants(family)
    found = []
    layer = [((), start) for start in starts]
    for length in range(most + 1):
        found.extend(way for way, state in layer if state == goal and length >= least)
        layer = [
            (way + ((number, slot),), target)
            for way, state in layer
            for number in useful
            if family[2][number][0] == state
            for slot, target in enumerate(family[2][number][1])
        ]
    return found


def way_rank(family, way):
    """What the order of ways compares."""
    return (len(way), [(family[2][number][0], number, slot) for number, slot in way])


def way_by_trying(family, starts, goal, least):
    """The first way, by trying everything; it has at most as many steps as there are states."""
    ways = all_ways(family, starts, goal, least, family[0])
    return min(ways, key=lambda way: way_rank(family, way), default=None)


def follow(family, tree, number, way):
    """The number of the part to which the way leads from the part with this number, None if it does not."""
    places = places_of(family, tree)
    for variant, slot in way:
        if tree[number] != variant:
            return None
        number = places.index((number, slot))
    return number


def repetition_by_trying(family, most):
    """The repetition, if there is one with at most this number of parts, by trying everything."""
    for state in range(family[0]):
        around = way_by_trying(family, (state,), state, 1)
        if around is not None:
            down = way_by_trying(family, family[1], state, 0)
            for tree in in_order(family, all_products(family, most)):
                outer = follow(family, tree, 0, down)
                # Ways begin at a state, so the product's root has to have the one at which this way begins.
                if outer is not None and family[2][tree[outer]][0] == state:
                    inner = follow(family, tree, outer, around)
                    if inner is not None:
                        return (tree, outer, inner)
            return "too large"
    return None


class TestFirstWay(unittest.TestCase):
    def test_examples(self):
        self.assertEqual(first_way(STANDS, (0,), 2), ((1, 0),))
        self.assertEqual(first_way(STANDS, (1, 2), 1, least=1), ((2, 0),))
        self.assertEqual(first_way(STANDS, (1, 2), 1), ())

    def test_no_starts(self):
        self.assertIsNone(first_way(STANDS, (), 1))
        self.assertIsNone(first_way(STANDS, (), 1, least=1))

    def test_the_goal_is_a_start(self):
        self.assertEqual(first_way(STANDS, (0,), 0, least=0), ())
        self.assertIsNone(first_way(STANDS, (0,), 0, least=1))
        self.assertEqual(first_way(STANDS, (3,), 3), ())
        self.assertIsNone(first_way(STANDS, (3,), 3, least=1))
        self.assertEqual(first_way(NOTHING, (0, 2), 2), ())
        self.assertEqual(first_way(STANDS, (2,), 2, least=1), ((3, 0),))

    def test_only_useful_variants(self):
        self.assertIsNone(first_way(EMPTY_SLOTS, (0,), 1))
        unreached = (3, (0,), ((0, (), 1), (1, (2,), 1), (2, (), 1)))
        self.assertIsNone(first_way(unreached, (1,), 2))
        self.assertEqual(first_way((3, (0, 1), unreached[2]), (1,), 2), ((1, 0),))
        missing = (2, (0,), ((0, (1,), None), (0, (1,), 9), (1, (), 1)))
        self.assertEqual(first_way(missing, (0,), 1), ((1, 0),))

    def test_the_plug_decides_first(self):
        family = (3, (0, 1), ((1, (2,), 1), (0, (2,), 1), (2, (), 1)))
        self.assertEqual(first_way(family, (0, 1), 2), ((1, 0),))
        self.assertEqual(first_way(family, (1,), 2), ((0, 0),))

    def test_then_the_variant_and_the_slot(self):
        family = (3, (0,), ((0, (1, 2), 1), (0, (2, 2), 1), (1, (), 1), (2, (), 1)))
        self.assertEqual(first_way(family, (0,), 2), ((0, 1),))
        self.assertEqual(first_way((3, (0,), family[2][1:]), (0,), 2), ((0, 0),))

    def test_fewer_steps_decide_before_everything(self):
        family = (4, (0, 1), ((0, (2,), 1), (2, (3,), 1), (3, (), 1), (1, (3,), 1)))
        self.assertEqual(first_way(family, (0, 1), 3), ((3, 0),))
        self.assertEqual(first_way(family, (0,), 3), ((0, 0), (1, 0)))

    def test_at_least_one_step_from_another_start(self):
        family = (2, (0,), ((0, (1,), 1), (1, (0,), 1), (1, (), 1)))
        self.assertEqual(first_way(family, (0, 1), 1, least=1), ((0, 0),))
        self.assertEqual(first_way(family, (1,), 1, least=1), ((1, 0), (0, 0)))

    def test_40_states(self):
        self.assertEqual(first_way(long_row(), (0,), 39), tuple((number, 0) for number in range(39)))
        self.assertIsNone(first_way(long_row(), (1,), 0))
        ring = (40, (0,), tuple((state, ((state + 1) % 40,), -1) for state in range(40)) + ((39, (), 0),))
        self.assertEqual(first_way(ring, (7,), 7, least=1), tuple((number % 40, 0) for number in range(7, 47)))
        self.assertEqual(first_way(ring, (20, 30), 19), tuple((number % 40, 0) for number in range(30, 59)))

    def test_against_trying_everything(self):
        for family in families_by_chance(120, states=4, variants=9, low=-3, seed=7):
            states = tuple(range(family[0]))
            for starts in (states[:1], states[1:3], states, family[1]):
                for goal in states:
                    for least in (0, 1):
                        way = first_way(family, starts, goal, least=least)
                        self.assertEqual(way, way_by_trying(family, starts, goal, least))
                        self.assertTrue(is_plain(way))


class TestFindRepetition(unittest.TestCase):
    def test_examples(self):
        self.assertEqual(find_repetition(STANDS), ((0, 2, 7), 1, 2))
        self.assertIsNone(find_repetition(FIXED))

    def test_no_products(self):
        self.assertIsNone(find_repetition(NOTHING))
        self.assertIsNone(find_repetition(EMPTY_SLOTS))
        self.assertIsNone(find_repetition((4, (), STANDS[2])))

    def test_forks(self):
        self.assertEqual(find_repetition(FORKS), ((0, 1, 1), 0, 1))

    def test_a_cycle_that_is_not_useful(self):
        self.assertIsNone(find_repetition((3, (0,), ((0, (), 1), (1, (1,), 1), (1, (), 1), (0, (2,), 1), (2, (2,), 0)))))

    def test_several_states_that_lead_back_to_themselves(self):
        family = (3, (2,), ((2, (1,), 0), (1, (0,), 0), (0, (1,), 0), (0, (), 5), (2, (2,), 0), (1, (), 9)))
        # State 0 is the least one; the way from it to itself leads through state 1.
        self.assertEqual(find_repetition(family), ((0, 1, 2, 1, 3), 2, 4))

    def test_the_least_state_of_those_that_lead_to_one_another(self):
        # State 2 also needs state 0, which leads nowhere.
        family = (3, (1,), ((1, (2,), 4), (2, (1,), 2), (2, (0,), 1), (0, (), 1)))
        self.assertEqual(find_repetition(family), ((0, 1, 0, 2, 3), 0, 2))
        family = (4, (0,), ((0, (3,), 1), (0, (1,), 1), (3, (2,), 1), (2, (3,), 1), (2, (), 1), (1, (), 9), (1, (1,), 1)))
        self.assertEqual(find_repetition(family), ((1, 6, 5), 1, 2))

    def test_first_trees_beside_the_ways(self):
        family = (3, (0,), ((0, (1, 2, 1), 4), (1, (), 2), (1, (), 1), (2, (1, 2, 1), 0), (2, (), 3)))
        self.assertEqual(find_repetition(family), ((0, 2, 3, 2, 4, 2, 2), 2, 4))

    def test_against_trying_everything(self):
        small = 0
        for family in families_by_chance(150, states=3, variants=6, high=2, seed=8):
            expected = repetition_by_trying(family, 9)
            if expected != "too large":
                self.assertEqual(find_repetition(family), expected)
                small += expected is not None
        self.assertGreater(small, 30)

    def row_with(self, parts, first):
        """Variants that allow exactly one tree at the state `first`; it has this number of parts."""
        variants = []
        state = first
        while parts > 1:
            many = 2 if parts % 2 else 1
            variants.append((state, (state + 1,) * many, 0))
            parts = (parts - 1) // many
            state += 1
        variants.append((state, (), 0))
        return variants

    def test_counts_at_the_bound(self):
        for parts in (97, 98, 99, 100):
            # The root, a second part with its state, a leaf for it, and a tree with this number of parts.
            variants = [(0, (0, 1), 0), (0, (), 50)] + self.row_with(parts, first=1)
            family = (12, (0,), tuple(variants))
            if parts + 2 <= 100:
                tree, outer, inner = find_repetition(family)
                self.assertEqual((len(tree), tree[:2], outer, inner), (parts + 2, (0, 1), 0, 1))
            else:
                with self.assertRaises(TooManyParts) as caught:
                    find_repetition(family)
                self.assertEqual(caught.exception.count, parts + 2)

    def test_more_than_10_to_18_parts(self):
        row = long_row()[2]
        family = (40, (0,), row + ((39, (39,), 0),))
        with self.assertRaises(TooManyParts) as caught:
            find_repetition(family)
        # The way from the root leads down, once, to one more part.
        self.assertEqual(caught.exception.count, LONG_ROW_PARTS + 1)


class TestRepeatPart(unittest.TestCase):
    def test_examples(self):
        self.assertEqual(repeat_part(STANDS, (0, 2, 7), 1, 2, 3), (0, 2, 2, 2, 7))
        self.assertEqual(repeat_part(STANDS, (0, 2, 7), 1, 2, 0), (0, 7))
        with self.assertRaises(StatesDiffer):
            repeat_part(STANDS, (0, 2, 7), 0, 2, 3)

    def test_once_is_the_tree_itself(self):
        self.assertEqual(repeat_part(STANDS, (0, 2, 7), 1, 2, 1), (0, 2, 7))
        self.assertEqual(repeat_part(FORKS, (0, 1, 0, 1, 1), 0, 2, 1), (0, 1, 0, 1, 1))

    def test_parts_on_both_sides(self):
        tree = (0, 0, 1, 1, 1)
        self.assertEqual(repeat_part(FORKS, tree, 0, 1, 2), (0, 0, 0, 1, 1, 1, 1))
        self.assertEqual(repeat_part(FORKS, tree, 0, 2, 2), (0, 0, 0, 0, 1, 1, 1, 1, 1))
        self.assertEqual(repeat_part(FORKS, tree, 0, 4, 2), (0, 0, 1, 1, 0, 0, 1, 1, 1))
        self.assertEqual(repeat_part(FORKS, tree, 1, 3, 0), (0, 1, 1))

    def test_50_times(self):
        tree = (0, 2, 7)
        self.assertEqual(repeat_part(STANDS, tree, 1, 2, 50), (0,) + (2,) * 50 + (7,))

    def test_not_inside(self):
        for outer, inner in ((2, 1), (1, 1), (2, 4), (4, 2), (0, 0), (4, 0), (1, 4), (2, 3)):
            with self.assertRaises(NotInside):
                repeat_part(FORKS, (0, 0, 1, 1, 1), outer, inner, 2)

    def test_too_many_parts(self):
        self.assertEqual(len(repeat_part(FORKS, (0, 1, 1), 0, 1, 49)), 99)
        with self.assertRaises(TooManyParts) as caught:
            repeat_part(FORKS, (0, 1, 1), 0, 1, 50)
        self.assertEqual(caught.exception.count, 101)
        lengths = (1, (0,), ((0, (0,), -2), (0, (), 1)))
        full = (0,) * 99 + (1,)
        self.assertEqual(repeat_part(lengths, full, 0, 1, 1), full)
        self.assertEqual(len(repeat_part(lengths, (0, 0, 1), 0, 2, 49)), 99)
        with self.assertRaises(TooManyParts) as caught:
            repeat_part(lengths, full, 0, 99, 50)
        self.assertEqual(caught.exception.count, 99 * 50 + 1)

    def test_exactly_100_parts(self):
        lengths = (1, (0,), ((0, (0,), 2), (0, (), 1)))
        self.assertEqual(repeat_part(lengths, (0,) * 51 + (1,), 0, 1, 49), (0,) * 99 + (1,))
        with self.assertRaises(TooManyParts) as caught:
            repeat_part(lengths, (0,) * 51 + (1,), 0, 1, 50)
        self.assertEqual(caught.exception.count, 101)

    def test_the_first_of_several_errors(self):
        long = (1,) + (3,) * 97 + (6, 7)
        self.assertTrue(is_tree(STANDS, 0, long))
        with self.assertRaises(NotInside):
            repeat_part(STANDS, long, 3, 0, 50)
        with self.assertRaises(NotInside):
            repeat_part(STANDS, long, 99, 1, 1)
        with self.assertRaises(StatesDiffer):
            repeat_part(STANDS, long, 1, 99, 50)
        with self.assertRaises(StatesDiffer):
            repeat_part(STANDS, long, 0, 1, 0)
        with self.assertRaises(TooManyParts):
            repeat_part(STANDS, long, 1, 98, 2)

    def test_against_replacing_step_by_step(self):
        for family in families_by_chance(60, variants=6, low=-2, seed=9):
            for tree in all_trees(family, 0, 6):
                for outer in range(len(tree)):
                    for inner in range(outer + 1, outer + span_of(family, tree, outer)):
                        if family[2][tree[outer]][0] == family[2][tree[inner]][0]:
                            self.check_copies(family, tree, outer, inner)

    def check_copies(self, family, tree, outer, inner):
        """Check 0 to 3 copies, each one put into the one before it."""
        whole = tree[outer:outer + span_of(family, tree, outer)]
        inside = tree[inner:inner + span_of(family, tree, inner)]
        expected = inside
        for times in range(4):
            repeated = repeat_part(family, tree, outer, inner, times)
            self.assertEqual(repeated, tree[:outer] + expected + tree[outer + len(whole):])
            self.assertTrue(is_tree(family, 0, repeated))
            expected = whole[:inner - outer] + expected + whole[inner - outer + len(inside):]


class TestArgumentsAlone(unittest.TestCase):
    def test_one_family_after_another(self):
        other = (2, (1,), ((1, (1,), 4), (1, (0,), 2), (0, (), 1), (0, (1, 1), 0)))
        check_independent(self, find_repetition, (STANDS,), (FORKS,))
        check_independent(self, find_repetition, (FIXED,), (other,))
        check_independent(self, first_way, (STANDS, (0,), 1), (other, (0,), 1))
        check_independent(self, repeat_part, (STANDS, (0, 2, 7), 1, 2, 2), (other, (0, 0, 1, 2), 0, 1, 2))


if __name__ == "__main__":
    unittest.main()
