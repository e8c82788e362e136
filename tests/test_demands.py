"""Tests of slotwise/demands.py: points 280 and 281."""

import unittest

from slotwise.demands import part_at, paths_of, satisfies
from slotwise.trees import places_of
from tests.helpers import FORKS, STANDS, all_trees, check_independent, families_by_chance, is_plain

NAMES = (("top",), ("top",), ("end",), ("end",), ("end",), ("end",), ("end",), (), (), ())
FORK_NAMES = (("left", "right"), ())
# The slots of the first two variants have the same names in another order.
WIDE = (3, (0,), ((0, (1, 2, 1), 5), (0, (2, 1, 1), 5), (1, (), 1), (2, (1, 0), 1), (2, (), 1)))
WIDE_NAMES = (("a", "b", "c"), ("b", "a", "c"), (), ("a", "b"), ())


def paths_by_places(family, names, tree):
    """The path of each part, by the places of the parts."""
    paths = []
    for number, (parent, slot) in enumerate(places_of(family, tree)):
        paths.append(() if parent is None else paths[parent] + (names[tree[parent]][slot],))
    return paths


class TestPartAt(unittest.TestCase):
    def test_examples(self):
        self.assertEqual(part_at(STANDS, NAMES, (1, 5, 8), ("top", "end")), 2)
        self.assertIsNone(part_at(STANDS, NAMES, (1, 5, 8), ("end",)))

    def test_the_empty_path(self):
        self.assertEqual(part_at(STANDS, NAMES, (1, 5, 8), ()), 0)
        self.assertEqual(part_at(STANDS, NAMES, (8,), ()), 0)

    def test_a_tree_that_ends_before_the_path(self):
        self.assertIsNone(part_at(STANDS, NAMES, (0, 7), ("top", "end")))
        self.assertIsNone(part_at(STANDS, NAMES, (1, 5, 8), ("top", "end", "end")))
        self.assertIsNone(part_at(STANDS, NAMES, (1, 5, 8), ("top", "end", "end", "end")))
        self.assertIsNone(part_at(STANDS, NAMES, (1, 5, 8), ("top", "top", "end")))
        self.assertIsNone(part_at(STANDS, NAMES, (8,), ("end",)))

    def test_behind_wide_slots(self):
        tree = (0, 0, 1, 1, 0, 1, 1)
        self.assertEqual(part_at(FORKS, FORK_NAMES, tree, ("left",)), 1)
        self.assertEqual(part_at(FORKS, FORK_NAMES, tree, ("right",)), 4)
        self.assertEqual(part_at(FORKS, FORK_NAMES, tree, ("left", "right")), 3)
        self.assertEqual(part_at(FORKS, FORK_NAMES, tree, ("right", "right")), 6)
        self.assertIsNone(part_at(FORKS, FORK_NAMES, tree, ("right", "right", "left")))

    def test_the_same_name_in_different_variants(self):
        first = (0, 2, 3, 2, 0, 2, 4, 2, 2)
        self.assertEqual(part_at(WIDE, WIDE_NAMES, first, ("a",)), 1)
        self.assertEqual(part_at(WIDE, WIDE_NAMES, first, ("b",)), 2)
        self.assertEqual(part_at(WIDE, WIDE_NAMES, first, ("c",)), 8)
        self.assertEqual(part_at(WIDE, WIDE_NAMES, first, ("b", "b", "b")), 6)
        second = (1, 4, 2, 2)
        self.assertEqual(part_at(WIDE, WIDE_NAMES, second, ("a",)), 2)
        self.assertEqual(part_at(WIDE, WIDE_NAMES, second, ("b",)), 1)

    def test_paths_of_four_names(self):
        tree = (1, 3, 3, 3, 3, 6, 7)
        self.assertEqual(part_at(STANDS, NAMES, tree, ("top", "end", "end", "end")), 4)
        self.assertTrue(is_plain(part_at(STANDS, NAMES, tree, ("top", "end", "end", "end"))))

    def test_against_places(self):
        words = ("x", "y", "z")
        for family in families_by_chance(40, slots=3, seed=21):
            names = tuple(words[at % 2:][:len(row[1])] if len(row[1]) < 3 else words for at, row in enumerate(family[2]))
            for tree in all_trees(family, 0, 6):
                paths = paths_by_places(family, names, tree)
                for number, path in enumerate(paths):
                    self.assertEqual(part_at(family, names, tree, path), number)
                    for word in words:
                        expected = paths.index(path + (word,)) if path + (word,) in paths else None
                        self.assertEqual(part_at(family, names, tree, path + (word,)), expected)


class TestSatisfies(unittest.TestCase):
    def test_example(self):
        self.assertIs(satisfies(STANDS, NAMES, (0, 2, 7), ((("top",), (2, 3, 4, 5)), ((), (0,)))), True)

    def test_no_demands(self):
        self.assertIs(satisfies(STANDS, NAMES, (0, 7), ()), True)

    def test_no_allowed_numbers(self):
        self.assertIs(satisfies(STANDS, NAMES, (0, 7), (((), ()),)), False)
        self.assertIs(satisfies(STANDS, NAMES, (0, 7), ((("top",), ()),)), False)

    def test_no_part_at_the_path(self):
        every = tuple(range(10))
        self.assertIs(satisfies(STANDS, NAMES, (0, 7), ((("top", "end"), every),)), False)
        self.assertIs(satisfies(STANDS, NAMES, (0, 2, 7), ((("top", "end"), every),)), True)
        self.assertIs(satisfies(STANDS, NAMES, (0, 2, 7), ((("end",), every),)), False)

    def test_a_variant_that_is_not_allowed(self):
        self.assertIs(satisfies(STANDS, NAMES, (0, 7), ((("top",), (0, 8)),)), False)
        self.assertIs(satisfies(STANDS, NAMES, (0, 7), (((), (1,)), (("top",), (7,)))), False)
        self.assertIs(satisfies(STANDS, NAMES, (0, 7), ((("top",), (7,)), ((), (1,)))), False)

    def test_several_demands_with_the_same_path(self):
        both = ((("top",), (2, 3, 4)), (("top",), (4, 5)))
        self.assertIs(satisfies(STANDS, NAMES, (0, 4, 7), both), True)
        self.assertIs(satisfies(STANDS, NAMES, (0, 2, 7), both), False)
        self.assertIs(satisfies(STANDS, NAMES, (1, 5, 8), both), False)
        self.assertIs(satisfies(STANDS, NAMES, (0, 4, 7), both[:1] * 9), True)

    def test_trees_at_other_states(self):
        self.assertIs(satisfies(STANDS, NAMES, (6, 7), (((), (6,)), (("end",), (7, 8)))), True)
        self.assertIs(satisfies(STANDS, NAMES, (9,), (((), (6,)),)), False)


class TestPathsOf(unittest.TestCase):
    def test_examples(self):
        self.assertEqual(paths_of(((("top", "end"), (7,)), ((), (0,)))), ((), ("top",), ("top", "end")))
        self.assertEqual(paths_of(()), ((),))

    def test_the_same_path_twice(self):
        self.assertEqual(paths_of(((("top",), (7,)), (("top",), (7,)), (("top",), ()))), ((), ("top",)))

    def test_shorter_ones_first_then_ascending(self):
        demands = (
            (("b", "a", "a", "a"), (1,)), (("b", "B"), (2,)), (("a",), ()), (("c", "a"), (0,)), (("a", "c"), (0,)),
            (("b", "a", "b"), (3,)), (("B",), (3,)), (("a1", "a"), (3,)),
        )
        self.assertEqual(paths_of(demands), (
            (), ("B",), ("a",), ("a1",), ("b",), ("c",), ("a", "c"), ("a1", "a"), ("b", "B"), ("b", "a"), ("c", "a"),
            ("b", "a", "a"), ("b", "a", "b"), ("b", "a", "a", "a"),
        ))

    def test_only_the_empty_path(self):
        self.assertEqual(paths_of((((), (1, 2)), ((), ()))), ((),))

    def test_nine_demands_with_long_paths(self):
        demands = tuple((tuple(f"n{number}{at}" for at in range(4)), ()) for number in range(9))
        paths = paths_of(demands)
        self.assertEqual(len(paths), 37)
        self.assertEqual(paths[-9:], tuple(path for path, _ in demands))


class TestArgumentsAlone(unittest.TestCase):
    def test_one_input_after_another(self):
        other = (("x", "y"), ())
        check_independent(self, part_at, (FORKS, FORK_NAMES, (0, 1, 1), ("right",)), (FORKS, other, (0, 1, 1), ("right",)))
        demands = ((("left",), (1,)),)
        check_independent(self, satisfies, (FORKS, FORK_NAMES, (0, 1, 1), demands), (FORKS, other, (0, 1, 1), demands))
        check_independent(self, paths_of, (demands,), ((),))


if __name__ == "__main__":
    unittest.main()
