"""Tests of slotwise/domains.py: point 61."""

import unittest

from slotwise.domains import port_states, variables_of
from slotwise.errors import UnknownComponent
from tests.helpers import CABINETS, LAMPS, check_independent, is_plain

COLOR = ("color", ("options", ("red", "blue", "amber")))
HEIGHT = ("height", ("range", -1, 1))
EMPTY = ("empty", "plain", (), (), (), (), 0, ())
FULL = ("full", "both", (HEIGHT, COLOR), (("left", "both"), ("plain", "plain"), ("right", "single")), (), (), 0, ())
MANY = ((("both", (COLOR, HEIGHT)), ("plain", ()), ("single", (("height", ("range", 5, 5)),))), (EMPTY, FULL), "plain")


class TestPortStates(unittest.TestCase):
    def test_example(self):
        self.assertEqual(port_states(CABINETS), (("niche", (88,)), ("niche", (89,)), ("niche", (90,))))

    def test_port_kinds_without_attributes(self):
        expected = (("whole", ()), ("joint", ("small",)), ("joint", ("large",)), ("rail", ()))
        self.assertEqual(port_states(LAMPS), expected)

    def test_the_first_attribute_is_the_most_significant_one(self):
        states = [("both", (color, height)) for color in ("red", "blue", "amber") for height in (-1, 0, 1)]
        self.assertEqual(port_states(MANY), tuple(states) + (("plain", ()), ("single", (5,))))
        self.assertTrue(is_plain(port_states(MANY)))

    def test_three_attributes(self):
        narrow = ("narrow", ("options", ("b", "a")))
        ports = (("all", (narrow, ("few", ("range", 0, 1)), ("last", ("options", ("z", "y")))),),)
        values = [state[1] for state in port_states((ports, (EMPTY,), "all"))]
        self.assertEqual(values, [(first, few, last) for first in "ba" for few in (0, 1) for last in "zy"])

    def test_exactly_40_states(self):
        ports = (("most", (HEIGHT, COLOR, ("four", ("range", 1, 4)))), ("few", (("more", ("range", 3, 6)),)))
        states = port_states((ports, (EMPTY,), "most"))
        self.assertEqual(len(states), 40)
        self.assertEqual(states[-4:], (("few", (3,)), ("few", (4,)), ("few", (5,)), ("few", (6,))))


class TestVariablesOf(unittest.TestCase):
    def test_example(self):
        expected = (("wood", ("oak", "pine")), ("shelves", (0, 1, 2, 3)), ("plug.width", (88, 89, 90)))
        self.assertEqual(variables_of(CABINETS, "cabinet"), expected)

    def test_attributes_plug_and_slots_in_order(self):
        expected = (
            ("height", (-1, 0, 1)), ("color", ("red", "blue", "amber")),
            ("plug.color", ("red", "blue", "amber")), ("plug.height", (-1, 0, 1)),
            ("left.color", ("red", "blue", "amber")), ("left.height", (-1, 0, 1)), ("right.height", (5,)),
        )
        self.assertEqual(variables_of(MANY, "full"), expected)
        self.assertTrue(is_plain(variables_of(MANY, "full")))

    def test_no_variables(self):
        self.assertEqual(variables_of(MANY, "empty"), ())
        self.assertEqual(variables_of(LAMPS, "clamp"), ())

    def test_slots_of_the_same_port_kind(self):
        twins = ("twins", "plain", (), (("one", "single"), ("two", "single")), (), (), 0, ())
        definition = (MANY[0], (EMPTY, twins), "plain")
        self.assertEqual(variables_of(definition, "twins"), (("one.height", (5,)), ("two.height", (5,))))

    def test_unknown_component(self):
        for name in ("bulbs", "plain", "Full", "whole", "plug", "component", "a"):
            with self.assertRaises(UnknownComponent) as caught:
                variables_of(MANY, name)
            self.assertEqual(caught.exception.name, name)


class TestArgumentsAlone(unittest.TestCase):
    def test_one_definition_after_another(self):
        check_independent(self, port_states, (CABINETS,), (LAMPS,))
        other = (((CABINETS[0][0][0], ()),), CABINETS[1], "niche")
        check_independent(self, variables_of, (CABINETS, "cabinet"), (other, "cabinet"))


if __name__ == "__main__":
    unittest.main()
