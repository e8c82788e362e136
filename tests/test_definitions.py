"""Tests of slotwise/definitions.py: points 60, 61 and 63, with 5, 20 and 22."""

import unittest

from slotwise import errors
from slotwise.definitions import check_definition
from tests.helpers import CABINET, CABINETS, LAMPS, variable

NUMBER = ("n", ("range", 1, 2))
COLOR = ("c", ("options", ("red", "blue")))
NOT_A_CONDITION = ("not", ("number", 1))
TRUE = ("true",)


def component(name="thing", plug="spot", attributes=(), slots=(), rules=(), tables=(), charges=()):
    """A component."""
    return (name, plug, tuple(attributes), tuple(slots), tuple(rules), tuple(tables), 10, tuple(charges))


def definition(*components, ports=(("spot", (NUMBER,)), ("hole", (COLOR,))), product="spot"):
    """A definition of these components."""
    return (tuple(ports), components, product)


def ranges(*sizes):
    """Attributes with these numbers of values."""
    return tuple((f"a{number}", ("range", 0, size - 1)) for number, size in enumerate(sizes))


class TestCase(unittest.TestCase):
    def check_error(self, error, given, /, **attributes):
        """Check that the definition is refused by exactly this error with these attributes."""
        with self.assertRaises(errors.SlotError) as caught:
            check_definition(given)
        self.assertEqual((type(caught.exception).__name__, vars(caught.exception)), (error, attributes))


class TestValid(TestCase):
    def test_examples(self):
        self.assertIsNone(check_definition(CABINETS))
        self.assertIsNone(check_definition(LAMPS))
        twice = (CABINETS[0], (CABINET, CABINET), "gate")
        self.check_error("DuplicateComponent", twice, name="cabinet")
        refused = CABINET[:4] + ((NOT_A_CONDITION,),) + CABINET[5:]
        self.check_error("InvalidRule", (CABINETS[0], (refused,), "gate"), component="cabinet", number=0)

    def test_names_that_may_be_equal(self):
        same = component(
            name="spot", attributes=[("spot", COLOR[1]), ("slot", NUMBER[1])],
            slots=[("spot", "spot"), ("slot", "hole")],
        )
        ports = (("spot", (("spot", NUMBER[1]),)), ("hole", (("spot", COLOR[1]),)))
        self.assertIsNone(check_definition(definition(same, ports=ports)))

    def test_options_that_occur_in_several_attributes(self):
        given = component(attributes=[COLOR, ("d", COLOR[1])], slots=[("s", "hole")])
        self.assertIsNone(check_definition(definition(given)))

    def test_a_range_of_one_integer(self):
        self.assertIsNone(check_definition(definition(component(attributes=[("x", ("range", -3, -3))]))))

    def test_columns_that_occur_in_several_tables(self):
        table = (("n", "plug.n"), ((1, "red"), (10 ** 6, -10 ** 6)))
        self.assertIsNone(check_definition(definition(component(attributes=[NUMBER], tables=[table, table]))))

    def test_rules_and_charges_with_variables_of_each_sort(self):
        rule = ("and", ("=", variable("plug.n"), variable("n")), ("=", variable("s.c"), variable("c")))
        given = component(attributes=[NUMBER, COLOR], slots=[("s", "hole")], rules=[rule], charges=[(rule, 5)])
        self.assertIsNone(check_definition(definition(given)))


class TestPorts(TestCase):
    def test_duplicate_port(self):
        ports = (("spot", ()), ("hole", ()), ("spot", (NUMBER,)))
        self.check_error("DuplicatePort", definition(component(), ports=ports), name="spot")

    def test_duplicate_attribute(self):
        ports = (("spot", ()), ("hole", (NUMBER, COLOR, ("n", COLOR[1]))))
        self.check_error("DuplicateAttribute", definition(component(), ports=ports), name="hole.n")

    def test_empty_range(self):
        for low, high in ((1, 0), (0, -1), (100000, -100000)):
            ports = (("spot", (("x", ("range", low, high)),)),)
            self.check_error("EmptyRange", definition(component(), ports=ports), name="spot.x")

    def test_duplicate_option(self):
        for options in (("red", "red"), ("red", "blue", "Red", "blue")):
            ports = (("spot", (NUMBER, ("x", ("options", options)))),)
            self.check_error("DuplicateOption", definition(component(), ports=ports), name="spot.x")

    def test_port_kinds_are_examined_one_after_the_other(self):
        empty = ("x", ("range", 1, 0))
        twice = ("x", ("options", ("red", "red")))
        self.check_error("EmptyRange", definition(component(), ports=(("spot", (empty,)), ("spot", ()))), name="spot.x")
        ports = (("spot", (NUMBER,)), ("hole", (twice, empty)), ("spot", ()))
        self.check_error("DuplicateOption", definition(component(), ports=ports), name="hole.x")
        ports = (("spot", (("x", NUMBER[1]), empty)),)
        self.check_error("DuplicateAttribute", definition(component(), ports=ports), name="spot.x")
        ports = (("spot", (NUMBER,)), ("spot", (empty,)))
        self.check_error("DuplicatePort", definition(component(), ports=ports), name="spot")

    def test_40_and_41_port_states(self):
        forty = (("spot", ranges(6, 6)), ("hole", ranges(3)), ("last", ()))
        self.assertIsNone(check_definition(definition(component(plug="last"), ports=forty, product="last")))
        more = forty + (("end", ()),)
        self.check_error("TooManyStates", definition(component(plug="last"), ports=more, product="last"), count=41)
        options = (("spot", (COLOR, ("d", ("options", ("a", "b", "c"))), ("e", ("options", ("a", "b", "c", "d"))))),)
        twice = options + (("hole", options[0][1]),)
        self.check_error("TooManyStates", definition(component(), ports=twice), count=48)
        largest = tuple((f"p{number}", ranges(6, 6, 6)) for number in range(6))
        self.check_error("TooManyStates", definition(component(), ports=largest), count=1296)

    def test_too_many_states_come_behind_all_port_kinds(self):
        ports = (("spot", ranges(6, 6, 6)), ("spot", ()))
        self.check_error("DuplicatePort", definition(component(), ports=ports), name="spot")
        ports = (("spot", ranges(6, 6, 6)), ("hole", (("x", ("range", 1, 0)),)))
        self.check_error("EmptyRange", definition(component(), ports=ports), name="hole.x")

    def test_too_many_states_come_before_components(self):
        wrong = component(plug="gate")
        self.check_error("TooManyStates", definition(wrong, wrong, ports=(("spot", ranges(6, 6, 6)),)), count=216)


class TestComponents(TestCase):
    def test_duplicate_component(self):
        given = definition(component("one"), component("two"), component("one", plug="gate"))
        self.check_error("DuplicateComponent", given, name="one")

    def test_unknown_plug(self):
        self.check_error("UnknownPort", definition(component(plug="gate")), name="gate")
        self.check_error("UnknownPort", definition(component(plug="Spot")), name="Spot")

    def test_attributes(self):
        given = component(attributes=[NUMBER, COLOR, ("n", COLOR[1])])
        self.check_error("DuplicateAttribute", definition(given), name="thing.n")
        given = component(attributes=[COLOR, ("x", ("range", 2, 1))])
        self.check_error("EmptyRange", definition(given), name="thing.x")
        given = component(attributes=[COLOR, ("x", ("options", ("a", "b", "a")))])
        self.check_error("DuplicateOption", definition(given), name="thing.x")

    def test_slots(self):
        given = component(slots=[("s", "hole"), ("t", "hole"), ("s", "gate")])
        self.check_error("DuplicateSlot", definition(given), name="thing.s")
        given = component(slots=[("s", "hole"), ("t", "gate"), ("s", "hole")])
        self.check_error("UnknownPort", definition(given), name="gate")

    def test_invalid_rules(self):
        for rule in (
            NOT_A_CONDITION, ("number", 1), ("option", "red"), variable("n"), ("=", variable("x"), ("number", 1)),
            ("=", variable("n"), variable("c")), ("=", variable("s.n"), ("number", 1)), variable("s.c"),
            ("<", variable("s.c"), variable("s.c")), ("=", variable("spot.n"), ("number", 1)),
        ):
            given = component(attributes=[NUMBER, COLOR], slots=[("s", "hole")], rules=[TRUE, rule, NOT_A_CONDITION])
            self.check_error("InvalidRule", definition(given), component="thing", number=1)

    def test_the_kinds_of_variables(self):
        for condition in (
            ("<", variable("n"), variable("plug.n")), ("=", variable("c"), variable("s.c")), ("not", ("false",)),
            ("!=", variable("c"), ("option", "green")), ("=", ("+", variable("n"), ("number", 1)), ("number", 2)),
        ):
            given = component(attributes=[NUMBER, COLOR], slots=[("s", "hole")], rules=[condition])
            self.assertIsNone(check_definition(definition(given)))

    def test_unknown_columns(self):
        first = (("n",), ((1,),))
        for columns in (("x",), ("n", "s.x"), ("s.c", "plug.c", "plug.c"), ("c", "thing.n", "n")):
            name = [column for column in columns if column not in ("n", "c", "plug.n", "s.c")][0]
            given = component(
                attributes=[NUMBER, COLOR], slots=[("s", "hole")],
                tables=[first, (columns, ((1,) * len(columns),))], charges=[(NOT_A_CONDITION, 1)],
            )
            self.check_error("UnknownColumn", definition(given), component="thing", number=1, name=name)

    def test_duplicate_columns(self):
        tables = [(("plug.n", "n", "plug.n"), ((1, 1, 1),)), (("x",), ((1,),))]
        given = component(attributes=[NUMBER], tables=tables)
        self.check_error("DuplicateColumn", definition(given), component="thing", number=0, name="plug.n")
        given = component(attributes=[NUMBER], tables=[(("x", "x"), ((1, 1),))])
        self.check_error("UnknownColumn", definition(given), component="thing", number=0, name="x")
        given = component(attributes=[NUMBER], tables=[(("n", "n", "x"), ((1, 1, 1),))])
        self.check_error("DuplicateColumn", definition(given), component="thing", number=0, name="n")

    def test_invalid_charges(self):
        for condition in (NOT_A_CONDITION, ("number", 7), ("<", variable("n"), ("option", "red")), variable("q")):
            given = component(attributes=[NUMBER], charges=[(TRUE, 1), (TRUE, 2), (condition, 3)])
            self.check_error("InvalidCharge", definition(given), component="thing", number=2)

    def test_the_order_within_a_component(self):
        wrong = {
            "attributes": [("x", ("range", 1, 0))], "slots": [("s", "gate")], "rules": [NOT_A_CONDITION],
            "tables": [(("y",), ((1,),))], "charges": [(NOT_A_CONDITION, 1)],
        }
        expected = (
            ("EmptyRange", {"name": "thing.x"}), ("UnknownPort", {"name": "gate"}),
            ("InvalidRule", {"component": "thing", "number": 0}),
            ("UnknownColumn", {"component": "thing", "number": 0, "name": "y"}),
            ("InvalidCharge", {"component": "thing", "number": 0}),
        )
        parts = list(wrong)
        for at, (name, attributes) in enumerate(expected):
            given = component(**{part: wrong[part] for part in parts[at:]})
            self.check_error(name, definition(given, product="nowhere"), **attributes)
        self.check_error("UnknownPort", definition(component(plug="none", **wrong)), name="none")

    def test_components_are_examined_one_after_the_other(self):
        charge = component("one", charges=[(NOT_A_CONDITION, 1)])
        given = definition(charge, component("one"), product="nowhere")
        self.check_error("InvalidCharge", given, component="one", number=0)
        given = definition(component("one"), component("two", rules=[("number", 1)]), component("one"))
        self.check_error("InvalidRule", given, component="two", number=0)


class TestAtTheEnd(TestCase):
    def test_unknown_product(self):
        self.check_error("UnknownPort", definition(component(), product="thing"), name="thing")
        self.check_error("UnknownPort", definition(component(plug="gate"), product="nowhere"), name="gate")

    def test_300_and_301_assignments(self):
        # Each of the first two has 6 * 6 * 2 assignments for each of the 2 values of its plug, the third one 12.
        first = component("first", attributes=ranges(6, 6, 2))
        second = component("second", attributes=ranges(6, 6, 2))
        third = component("third", plug="hole", attributes=ranges(6))
        last = component("last", plug="end")
        ports = (("spot", (NUMBER,)), ("hole", (COLOR,)), ("end", ()))
        self.assertIsNone(check_definition(definition(first, second, third, ports=ports)))
        self.check_error("TooManyAssignments", definition(first, second, third, last, ports=ports), count=301)

    def test_variants_do_not_matter(self):
        slots = [("s", "spot"), ("t", "spot"), ("u", "hole")]
        given = component(attributes=ranges(6, 4), slots=slots, rules=[("false",)])
        self.check_error("TooManyAssignments", definition(given), count=24 * 2 * 8)

    def test_the_product_comes_before_the_assignments(self):
        given = definition(component(attributes=ranges(6, 6, 6)), product="nowhere")
        self.check_error("UnknownPort", given, name="nowhere")
        self.check_error("TooManyAssignments", definition(component(attributes=ranges(6, 6, 6))), count=432)

    def test_very_many_assignments(self):
        ports = (("spot", ranges(6, 6)), ("end", ()))
        slots = [("s", "spot"), ("t", "spot"), ("u", "spot")]
        given = component(attributes=ranges(6, 6, 6), slots=slots)
        self.check_error("TooManyAssignments", definition(given, ports=ports), count=6 ** 11)


class TestArgumentsAlone(TestCase):
    def test_one_definition_after_another(self):
        for _ in range(2):
            self.assertIsNone(check_definition(CABINETS))
            self.check_error("UnknownPort", definition(component(plug="gate")), name="gate")
            self.assertIsNone(check_definition(definition(component())))


if __name__ == "__main__":
    unittest.main()
