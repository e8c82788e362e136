"""Tests of slotwise/variants.py: points 62 and 64, with 60, 61 and 63."""

import unittest

from slotwise.domains import port_states, variables_of
from slotwise.errors import UnknownComponent
from slotwise.evaluation import holds
from slotwise.reader import read_condition
from slotwise.variants import family_of, slot_names_of, variants_of
from tests.helpers import CABINETS, LAMPS, RACKS, STANDS, check_independent, is_plain

COLOR = ("color", ("options", ("red", "blue", "1")))
HEIGHT = ("height", ("range", -1, 1))


def part(attributes=(), plug="end", slots=(), rules=(), tables=(), price=10, charges=()):
    """A component called `part`; rules and the conditions of charges are texts."""
    read = tuple(read_condition(rule) for rule in rules)
    charged = tuple((read_condition(text), amount) for text, amount in charges)
    return ("part", plug, tuple(attributes), tuple(slots), read, tuple(tables), price, charged)


def with_ports(*components, product="end"):
    """A definition of these components."""
    return ((("end", ()), ("spot", (COLOR,)), ("wide", (HEIGHT, COLOR))), components, product)


def variants_by_words(definition, row):
    """The variants of the component by the words of point 62, with assignments put together one by one."""
    name, _, _, _, rules, tables, price, charges = row
    variables = variables_of(definition, name)
    assignments = [()]
    for _, values in variables:
        assignments = [assignment + (value,) for assignment in assignments for value in values]
    found = []
    for assignment in assignments:
        pairs = tuple((variable[0], value) for variable, value in zip(variables, assignment))
        if all(holds(rule, pairs) for rule in rules):
            if all(any(set(zip(columns, row)) <= set(pairs) for row in rows) for columns, rows in tables):
                more = sum(amount for condition, amount in charges if holds(condition, pairs))
                found.append((assignment, price + more))
    return tuple(found)


class TestVariantsOf(unittest.TestCase):
    def check(self, component, expected):
        """Check the variants of the component."""
        self.assertEqual(variants_of(with_ports(component), "part"), tuple(expected))

    def test_examples(self):
        expected = (
            (("oak", 0, 88), 200), (("oak", 2, 88), 215), (("oak", 2, 90), 275), (("pine", 0, 88), 200),
            (("pine", 2, 88), 215), (("pine", 2, 90), 215), (("pine", 3, 90), 215),
        )
        self.assertEqual(variants_of(CABINETS, "cabinet"), expected)
        self.assertEqual(variants_of(LAMPS, "adapter"), ((("large", "small"), 4),))

    def test_no_attributes(self):
        self.check(part(), [((), 10)])
        self.check(part(price=0, charges=[("true", 3)]), [((), 3)])
        self.check(part(rules=["1 < 2", "true"]), [((), 10)])

    def test_rules_that_nothing_satisfies(self):
        self.check(part(rules=["false"]), [])
        self.check(part([HEIGHT], rules=["height < 0", "height > 0"]), [])

    def test_all_rules_have_to_be_true(self):
        self.check(part([HEIGHT], rules=["height < 1", "height > -1"]), [((0,), 10)])

    def test_the_order_of_assignments(self):
        expected = [((height, color), 10) for height in (-1, 0, 1) for color in ("red", "blue", "1")]
        self.check(part([HEIGHT, COLOR]), expected)
        expected = [((height, color), 10) for color in ("red", "blue", "1") for height in (-1, 0, 1)]
        self.check(part([COLOR, HEIGHT]), [(values[::-1], price) for values, price in expected])

    def test_tables(self):
        rows = ((1, "red"), (0, "red"), (-1, "blue"), (1, "red"))
        expected = [((-1, "blue"), 10), ((0, "red"), 10), ((1, "red"), 10)]
        self.check(part([HEIGHT, COLOR], tables=[(("height", "color"), rows)]), expected)
        turned = (("color", "height"), tuple(row[::-1] for row in rows))
        self.check(part([HEIGHT, COLOR], tables=[turned]), expected)
        both = [(("height", "color"), rows), (("height",), ((0,), (-1,)))]
        self.check(part([HEIGHT, COLOR], tables=both), expected[:2])

    def test_rows_with_values_that_a_variable_does_not_have(self):
        rows = ((7, "red"), (0, "green"), ("red", 0), (1, 1), ("1", "1"), (0, "1"))
        self.check(part([HEIGHT, COLOR], tables=[(("height", "color"), rows)]), [((0, "1"), 10)])
        self.check(part([HEIGHT], tables=[(("height",), (("0",), ("1",), (5,)))]), [])
        self.check(part([COLOR], tables=[(("color",), ((1,),))]), [])

    def test_a_table_does_not_order_or_repeat_variants(self):
        self.check(part([HEIGHT], tables=[(("height",), ((1,), (0,), (1,)))]), [((0,), 10), ((1,), 10)])

    def test_charges_that_overlap(self):
        charges = [("height >= 0", 1), ("height >= 1", 20), ("height >= 0", 1), ("height < -1", 1000)]
        self.check(part([HEIGHT], charges=charges), [((-1,), 10), ((0,), 12), ((1,), 32)])

    def test_prices_at_the_bounds(self):
        component = part(price=10 ** 6, charges=[("true", 10 ** 6)] * 4)
        self.check(component, [((), 5 * 10 ** 6)])
        self.check(part(price=0, charges=[("true", 0)]), [((), 0)])

    def test_variables_of_the_plug_and_of_slots(self):
        component = part([HEIGHT], plug="spot", slots=[("a", "wide"), ("b", "end")], rules=[
            "plug.color = a.color", "a.height = height + 1", 'not plug.color = "1"',
        ])
        expected = [((h, c, h + 1, c), 10) for h in (-1, 0) for c in ("red", "blue")]
        self.check(component, expected)

    def test_a_slot_with_the_name_of_an_attribute(self):
        component = part([("a", HEIGHT[1])], slots=[("a", "spot")], rules=['a.color = "red" and a = 0'])
        self.check(component, [((0, "red"), 10)])

    def test_unknown_components(self):
        for definition, name in ((CABINETS, "Cabinet"), (LAMPS, "joint"), (LAMPS, ""), (CABINETS, "niche")):
            with self.assertRaises(UnknownComponent) as caught:
                variants_of(definition, name)
            self.assertEqual(vars(caught.exception), {"name": name})

    def test_against_the_words_of_the_document(self):
        for definition in (CABINETS, LAMPS, RACKS):
            for row in definition[1]:
                found = variants_of(definition, row[0])
                self.assertEqual(found, variants_by_words(definition, row))
                self.assertTrue(is_plain(found))


class TestFamilyOf(unittest.TestCase):
    def test_cabinets(self):
        expected = ((0, (), 200), (0, (), 215), (2, (), 275), (0, (), 200), (0, (), 215), (2, (), 215), (2, (), 215))
        self.assertEqual(family_of(CABINETS), (3, (0, 1, 2), expected))
        self.assertEqual(slot_names_of(CABINETS), ((),) * 7)

    def test_lamps(self):
        self.assertEqual(family_of(LAMPS), STANDS)
        expected = (("top",), ("top",), ("end",), ("end",), ("end",), ("end",), ("end",), (), (), ())
        self.assertEqual(slot_names_of(LAMPS), expected)

    def test_several_roots_behind_other_states(self):
        definition = with_ports(part(plug="wide", rules=['plug.color = "1"']), product="wide")
        self.assertEqual(family_of(definition), (13, tuple(range(4, 13)), ((6, (), 10), (9, (), 10), (12, (), 10))))

    def test_no_variants(self):
        definition = with_ports(part(rules=["false"]), ("other",) + part(slots=[("x", "end")])[1:])
        self.assertEqual(family_of(definition), (13, (0,), ((0, (0,), 10),)))
        self.assertEqual(slot_names_of(definition), (("x",),))
        definition = with_ports(part(rules=["false"]))
        self.assertEqual(family_of(definition), (13, (0,), ()))
        self.assertEqual(slot_names_of(definition), ())

    def test_slots_with_states(self):
        component = part(plug="spot", slots=[("a", "wide"), ("b", "end"), ("c", "spot")], rules=[
            'plug.color = "blue"', "a.height = 0", 'a.color = "red"', "c.color != plug.color",
        ])
        definition = with_ports(component)
        self.assertEqual(family_of(definition)[2], ((2, (7, 0, 1), 10), (2, (7, 0, 3), 10)))
        self.assertEqual(slot_names_of(definition), (("a", "b", "c"),) * 2)

    def test_states_by_the_names_of_variables(self):
        for definition in (CABINETS, LAMPS, RACKS):
            count, roots, variants = family_of(definition)
            states = port_states(definition)
            self.assertEqual(count, len(states))
            self.assertEqual(roots, tuple(at for at, state in enumerate(states) if state[0] == definition[2]))
            found = []
            for row in definition[1]:
                names = [name for name, _ in variables_of(definition, row[0])]
                for values, price in variants_of(definition, row[0]):
                    plug, *slots = [
                        states.index((port, tuple(v for n, v in zip(names, values) if n.startswith(owner + "."))))
                        for owner, port in (("plug", row[1]), *row[3])
                    ]
                    found.append((plug, tuple(slots), price))
            self.assertEqual(variants, tuple(found))
            names = [tuple(name for name, _ in row[3]) for row in definition[1] for _ in variants_of(definition, row[0])]
            self.assertEqual(slot_names_of(definition), tuple(names))
            self.assertTrue(is_plain((variants, slot_names_of(definition))))


class TestArgumentsAlone(unittest.TestCase):
    def test_one_definition_after_another(self):
        for ask in (family_of, slot_names_of):
            check_independent(self, ask, (CABINETS,), (LAMPS,))
        check_independent(self, variants_of, (CABINETS, "cabinet"), (LAMPS, "arm"))
        check_independent(self, variants_of, (LAMPS, "bulb"), (LAMPS, "arm"))


if __name__ == "__main__":
    unittest.main()
