"""Tests of slotwise/choices.py: point 360, and the candidates of point 362."""

import unittest

from slotwise.catalogues import Catalogue
from slotwise.choices import candidates_of, demand_of
from slotwise.domains import variables_of
from tests.helpers import CABINETS, LAMPS, RACKS, all_products, check_independent, is_plain, meets, paths_in

CATALOGUES = tuple(Catalogue(definition) for definition in (LAMPS, CABINETS, RACKS))
LAMP = CATALOGUES[0]
RACK = CATALOGUES[2]
TOP = ("top",)


def choices_for(catalogue, path):
    """Choices at the path: all names with all values of the catalogue, and some that do not occur."""
    names = {"component", "size", "plug.height", "not.and"}
    values = {"x", "1", 0, 10 ** 6, -10 ** 6}
    for row in catalogue.definition[1]:
        values.add(row[0])
        for name, domain in variables_of(catalogue.definition, row[0]):
            names.add(name)
            values.update(domain)
    return [(path, name, value) for name in sorted(names) for value in sorted(values, key=str)]


def holds_of(catalogue, tree, choice):
    """Whether the choice holds of the product, by the words of point 360."""
    path, name, value = choice
    paths = paths_in(catalogue.family, catalogue.slot_names, tree)
    if path not in paths:
        return False
    component, values, _ = catalogue.variants[tree[paths.index(path)]]
    if name == "component":
        return value == component
    names = [variable for variable, _ in variables_of(catalogue.definition, component)]
    return name in names and values[names.index(name)] == value


class TestDemandOf(unittest.TestCase):
    def check(self, choice, allowed):
        """Check the demand of a choice for the lamp stands."""
        self.assertEqual(demand_of(LAMP, choice), (choice[0], allowed))

    def test_examples(self):
        self.check((TOP, "component", "arm"), (2, 3, 4, 5))
        self.check((("top", "end"), "plug.size", "small"), (2, 4, 7))

    def test_components(self):
        for component, allowed in (
            ("stand", (0, 1)), ("adapter", (6,)), ("bulb", (7, 8)), ("clamp", (9,)), ("Stand", ()), ("joint", ()),
            ("component", ()), ("", ()), (1, ()), (0, ()),
        ):
            self.check(((), "component", component), allowed)

    def test_attributes(self):
        for value, allowed in ((1, (2, 3)), (2, (4, 5)), (3, ()), ("1", ()), (-1, ())):
            self.check((TOP, "length", value), allowed)

    def test_ports_of_the_plug_and_of_slots(self):
        self.check((TOP, "plug.size", "large"), (3, 5, 6, 8))
        self.check((TOP, "end.size", "large"), (3, 5))
        self.check((TOP, "end.size", "small"), (2, 4, 6))
        self.check(((), "top.size", "small"), (0,))
        self.check(((), "plug.size", "middle"), ())

    def test_names_that_no_component_has(self):
        for name in ("size", "joint.size", "arm.length", "plug", "end", "not.size", "plug.length"):
            for value in ("small", "large", 1, 2):
                self.check((TOP, name, value), ())

    def test_the_path_does_not_matter_for_what_is_allowed(self):
        for path in ((), TOP, ("nowhere",), ("top", "end", "end", "end")):
            self.check((path, "component", "clamp"), (9,))

    def test_the_same_name_in_several_components(self):
        expected = tuple(k for k, (component, values, _) in enumerate(RACK.variants)
                         if component in ("box", "ring") and values[0] == "red")
        self.assertEqual(demand_of(RACK, (("left",), "color", "red")), (("left",), expected))
        self.assertEqual({RACK.variants[k][0] for k in expected}, {"box", "ring"})

    def test_a_product_satisfies_the_demand_if_the_choice_holds_of_it(self):
        for catalogue, paths in (
            (LAMP, ((), TOP, ("top", "end"), ("end",))), (CATALOGUES[1], ((), TOP)),
            (RACK, ((), ("left",), ("right",), ("left", "inner"), ("right", "gap"))),
        ):
            names = catalogue.slot_names
            trees = all_products(catalogue.family, 5)
            held = 0
            for path in paths:
                for choice in choices_for(catalogue, path):
                    demand = demand_of(catalogue, choice)
                    self.assertTrue(is_plain(demand))
                    self.assertEqual(demand[1], tuple(sorted(set(demand[1]))))
                    for tree in trees[::3]:
                        expected = holds_of(catalogue, tree, choice)
                        held += expected
                        self.assertIs(meets(catalogue.family, names, tree, (demand,)), expected)
            self.assertGreater(held, 5)

    def test_one_choice_after_another(self):
        check_independent(
            self, demand_of, (LAMP, (TOP, "component", "arm")), (RACK, (("left",), "component", "box"))
        )
        check_independent(self, demand_of, (LAMP, (TOP, "length", 1)), (LAMP, (TOP, "length", 2)))


class TestCandidatesOf(unittest.TestCase):
    def test_components(self):
        self.assertEqual(candidates_of(LAMP, "component"), ("stand", "arm", "adapter", "bulb", "clamp"))

    def test_variables(self):
        self.assertEqual(candidates_of(LAMP, "length"), (1, 2))
        self.assertEqual(candidates_of(LAMP, "end.size"), ("small", "large"))
        self.assertEqual(candidates_of(LAMP, "size"), ())

    def test_each_value_once_at_its_first_occurrence(self):
        self.assertEqual(candidates_of(RACK, "color"), ("red", "blue", "green"))


if __name__ == "__main__":
    unittest.main()
