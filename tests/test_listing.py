"""Tests of slotwise/listing.py: points 80 to 85, with 5, 44 and 60."""

import random
import re
import unittest

from slotwise import errors
from slotwise.listing import read_definition, show_definition
from slotwise.printer import show_condition
from slotwise.reader import read_condition
from tests.helpers import CABINET, CABINETS, LAMPS, RACKS, check_independent, expression_by_chance, is_plain

CABINETS_TEXT = """product niche
port niche
  width: 88 to 90
component cabinet
  plug niche
  wood: "oak", "pine"
  shelves: 0 to 3
  rule wood = "oak" implies shelves < 3
  table plug.width, shelves: 88, 0; 88, 2; 90, 2; 90, 3; 100, 1
  price 200
  charge 15 when shelves > 0
  charge 60 when wood = "oak" and plug.width * 2 > 178"""

# The shortest definition, line by line, and where lines of each form can stand.
SHORT = ("product side", "port side", "component panel", "plug side", "price 3")
PANEL = ("panel", "side", (), (), (), (), 3, ())
LINES = {
    "product": "product side", "port": "port other", "component": "component rack", "plug": "plug side",
    "attribute": "x: 1 to 2", "slot": "slot a: side", "rule": "rule true", "table": "table x: 1", "price": "price 4",
    "charge": "charge 5 when true",
}


def panel(attributes=(), slots=(), rules=(), tables=(), price=3, charges=()):
    """The definition whose only component has these lines."""
    return (
        (("side", ()),),
        (("panel", "side", tuple(attributes), tuple(slots), tuple(rules), tuple(tables), price, tuple(charges)),),
        "side",
    )


def text_with(*lines, price="price 3", charges=()):
    """The text of the definition whose only component has these lines between the plug and the price."""
    return "\n".join(SHORT[:4] + lines + (price,) + tuple(charges))


class TestCase(unittest.TestCase):
    def check_error(self, text, error, line):
        """Check that exactly this error is raised, with this line."""
        with self.assertRaises(errors.SlotError) as caught:
            read_definition(text)
        self.assertEqual((type(caught.exception), vars(caught.exception)), (error, {"line": line}), text)

    def check(self, text, definition):
        """Check what the text is read as."""
        found = read_definition(text)
        self.assertEqual(found, definition)
        self.assertTrue(is_plain(found))

    def check_line(self, line, error):
        """Check that the line is refused in the middle of a component."""
        self.check_error(text_with("a: 1 to 2", line), error, 5)


class TestExamples(TestCase):
    def test_examples(self):
        text = (
            "product side\nport side\ncomponent rack\n  plug side\n  slot left: side\n  price 10\n"
            "component panel\n  plug side\n  price 3"
        )
        rack = ("rack", "side", (), (("left", "side"),), (), (), 10, ())
        self.check(text, ((("side", ()),), (rack, PANEL), "side"))
        red = ("panel", "side", (("color", ("options", ("red",))),), (), (), (), 3, ())
        shown = 'product side\nport side\ncomponent panel\n  plug side\n  color: "red"\n  price 3'
        self.assertEqual(show_definition(((("side", ()),), (red,), "side")), shown)
        self.assertEqual(read_definition(show_definition(CABINETS)), CABINETS)
        self.check_error("product side\nport side\ncomponent rack\n  price 10", errors.MisplacedLine, 3)

    def test_the_printed_text_of_point_85(self):
        self.assertEqual(show_definition(CABINETS), CABINETS_TEXT)
        self.check(CABINETS_TEXT, CABINETS)

    def test_lamps_and_racks(self):
        for definition in (LAMPS, RACKS):
            self.check(show_definition(definition), definition)


class TestForms(TestCase):
    def test_attributes_with_options(self):
        for line, options in (
            ('a: "x"', ("x",)), ('a:"x","y"', ("x", "y")), ('a  :  "x"  ,  "y,z"', ("x", "y,z")),
            ('a: "x", "x", ": ", "; to"', ("x", "x", ": ", "; to")), ('a: "' + "x" * 20 + '"', ("x" * 20,)),
        ):
            self.check(text_with(line), panel([("a", ("options", options))]))

    def test_attributes_with_ranges(self):
        for line, low, high in (
            ("a: 1 to 2", 1, 2), ("a:1to 2", 1, 2), ("a: -3 to -2", -3, -2), ("a: - 3 to - 0000002", -3, -2),
            ("a:-3to-2", -3, -2), ("a: 0 to 5", 0, 5), ("a: 5 to 4", 5, 4), ("a: 100000 to -100000", 100000, -100000),
            ("a: -0 to 0000000", 0, 0), ("a: 99995 to 100000", 99995, 100000), ("a: -100000 to -99995", -100000, -99995),
        ):
            self.check(text_with(line), panel([("a", ("range", low, high))]))

    def test_slots(self):
        for line, slot in (("slot a: side", ("a", "side")), ("slot slot:gate", ("slot", "gate")), ("slot  a : b", ("a", "b"))):
            self.check(text_with(line), panel(slots=[slot]))

    def test_rules(self):
        for line, text in (
            ("rule true", "true"), ("rule   a  <b", "a < b"), ('rule"x"="y"', '"x" = "y"'), ("rule-1 < 2", "-1 < 2"),
            ("rule(a)", "a"), ('rule a = ":"', 'a = ":"'), ("rule rule", "rule"), ("rule when", "when"), ("rule 1", "1"),
        ):
            self.check(text_with(line), panel(rules=[read_condition(text)]))

    def test_tables(self):
        for line, table in (
            ("table a: 1", (("a",), ((1,),))), ('table a,b.c:1,"x";-2,"y"', (("a", "b.c"), ((1, "x"), (-2, "y")))),
            ("table plug: - 5", (("plug",), ((-5,),))), ('table not.and , to : "1" , 1', (("not.and", "to"), (("1", 1),))),
            ("table table: 1000000; -1000000", (("table",), ((10 ** 6,), (-10 ** 6,)))),
            ('table a, a, a: 1, 1, 1; "; ", ",", ":"', (("a", "a", "a"), ((1, 1, 1), ("; ", ",", ":")))),
        ):
            self.check(text_with(line), panel(tables=[table]))

    def test_prices(self):
        for text, price in (("price 0", 0), ("price 0000007", 7), ("price   1000000", 10 ** 6)):
            self.check(text_with(price=text), panel(price=price))

    def test_charges(self):
        for line, amount, text in (
            ("charge 5 when true", 5, "true"), ("charge 5when(a)", 5, "a"), ('charge  0000000  when"x"="y"', 0, '"x" = "y"'),
            ("charge 1000000 when when", 10 ** 6, "when"), ('charge 1 when x = "when :"', 1, 'x = "when :"'),
        ):
            self.check(text_with(charges=[line]), panel(charges=[(read_condition(text), amount)]))

    def test_names_that_begin_lines(self):
        words = ("product", "port", "slot", "rule", "table", "price", "charge", "when", "to")
        for word in words:
            for colon in (":", " :", "   : "):
                self.check(text_with(f"{word}{colon}1 to 2"), panel([(word, ("range", 1, 2))]))
            text = f'product {word}\nport {word}\n{word}: "a"\ncomponent {word}\nplug {word}\nslot {word}: {word}\nprice 1'
            component = (word, word, (), ((word, word),), (), (), 1, ())
            self.check(text, (((word, ((word, ("options", ("a",))),)),), (component,), word))

    def test_definitions_that_are_not_valid(self):
        text = "product x\nport a\nport a\ncomponent b\nplug q\nslot s: t\nslot s: t\nrule 1\ntable x, x: 1, 1\nprice 0"
        component = ("b", "q", (), (("s", "t"),) * 2, (("number", 1),), ((("x", "x"), ((1, 1),)),), 0, ())
        self.check(text, ((("a", ()), ("a", ())), (component,), "x"))

    def test_longest_words(self):
        name = "a" * 19 + "1"
        self.check(text_with(f"{name}: 1 to 2"), panel([(name, ("range", 1, 2))]))
        self.check(text_with(f"table {name}.{name}: 1"), panel(tables=[((f"{name}.{name}",), ((1,),))]))


class TestSpacesAndEmptyLines(TestCase):
    def test_spaces_at_the_beginning_and_at_the_end(self):
        text = "\n".join("   " + line + "  " for line in CABINETS_TEXT.split("\n"))
        self.check(text, CABINETS)
        self.check("\n".join(line.strip() for line in CABINETS_TEXT.split("\n")), CABINETS)

    def test_empty_lines_are_skipped(self):
        lines = CABINETS_TEXT.split("\n")
        for at in range(len(lines) + 1):
            for more in ([""], ["", "   ", ""]):
                self.check("\n".join(lines[:at] + more + lines[at:]), CABINETS)

    def test_skipped_lines_count(self):
        self.check_error("\n\n  \nport a", errors.MisplacedLine, 3)
        self.check_error("\nproduct a\n\n???", errors.UnknownLine, 3)
        self.check_error("product a\n\n", errors.MissingLine, 3)

    def test_spaces_within_options(self):
        self.check(text_with('a: " x ", "  "'), panel([("a", ("options", (" x ", "  ")))]))


class TestUnknownLines(TestCase):
    def test_lines_of_no_form(self):
        for line in (
            "side", "?", "a", "1", '"a"', ":", "a b", "plugs side", "ports a", "Price 3", "price", "price -1", "price 1 2",
            "price a", 'price "1"', "price 1.5", "port", "port a b", "port a.b", "port 1", "component", "component a, b",
            "plug", "plug a:b", "product", 'product "a"', "price 12345678", "pricex 1", "price=1",
        ):
            self.check_line(line, errors.UnknownLine)

    def test_attributes(self):
        for line in (
            "b:", "b: 1", "b: 1 to", "b: to 2", "b: 1 2", "b: 1 to 2 to 3", "b: 1 To 2", 'b: "x" to "y"', 'b: 1 to "y"',
            "b: 1, 2", 'b: "x",', 'b: , "x"', 'b: "x" "y"', 'b: "x"; "y"', 'b: "x", 1', "b: a", "b: - to 2", "b: --1 to 2",
            "b: 1 - to 2", 'b: -"x"', "b: 1to2", "b: 12345678 to 1", 'b: ""', 'b: "x', 'b: "' + "x" * 21 + '"', "b:: 1 to 2",
            "b.c: 1 to 2", "1: 1 to 2", '"b": "x"', ": 1 to 2", "b c: 1 to 2", "a" * 21 + ": 1 to 2", "b: 1 to 2 3",
            "b: 1 to 2,", "b: +1 to 2", "-b: 1 to 2",
        ):
            self.check_line(line, errors.UnknownLine)

    def test_what_is_followed_by_a_colon_can_only_be_an_attribute(self):
        for line in (
            "rule: true", "rule : a < b", "rule:", "slot: a", "table: a", "price: 3", "charge: 5 when true", "charge :",
            "product: side", "port: a", "component: a", "plug: side", "table : 1",
        ):
            self.check_line(line, errors.UnknownLine)

    def test_words_that_are_not_names(self):
        for word in ("and", "or", "not", "implies", "true", "false", "plug", "component"):
            for line in (
                f"{word}: 1 to 2", f"product {word}", f"port {word}", f"component {word}", f"plug {word}",
                f"slot {word}: a", f"slot a: {word}",
            ):
                self.check_line(line, errors.UnknownLine)
            if word not in ("plug", "component"):
                self.check_line(f"table {word}: 1", errors.UnknownLine)

    def test_slots(self):
        for line in ("slot", "slot a", "slot a:", "slot : a", "slot a b", "slot a: b c", "slot a: b.c", "slot a: 1", "slot a, b: c"):
            self.check_line(line, errors.UnknownLine)

    def test_tables(self):
        for line in (
            "table", "table a", "table a:", "table a: ;", "table a: 1;", "table a: ; 1", "table a: 1,", "table a: 1, 2",
            "table a, b: 1", "table a, b: 1, 2; 3", "table a, b: 1, 2; 3, 4, 5", "table a; b: 1, 2", "table a b: 1, 2",
            "table a,: 1", "table , a: 1", "table 1: 1", 'table "a": 1', "table a: b", "table a: 1: 2", "table a.b.c: 1",
            "table a: 1 2", "table a: 1 to 2", "table a: --1", "table a: 12345678", "table-a: 1", "table.a: 1",
        ):
            self.check_line(line, errors.UnknownLine)

    def test_rules_and_charges(self):
        for line in (
            "rules true", "rule1", "rule.a < b", "rule." + "a" * 21, "Rule true", "charge", "charge 5", "charge when true",
            "charge 5 true", "charge 5 wheN true", "charge 5 when.a", "charge a when true", "charge -5 when true",
            "charge 12345678 when true", "charge5 when true", "charge 5 whens", "charge 5, when true", "charge.a 5 when true",
            'charge "5" when true', "charge 5 6 when true", "charge 5 when." + "a" * 21,
        ):
            self.check_line(line, errors.UnknownLine)

    def test_in_the_first_line_and_in_the_last_one(self):
        self.check_error("?", errors.UnknownLine, 0)
        self.check_error("?\n" + CABINETS_TEXT, errors.UnknownLine, 0)
        self.check_error(CABINETS_TEXT + "\n?", errors.UnknownLine, 12)


class TestMisplacedLines(TestCase):
    def test_each_form_behind_each_form(self):
        rest = ("attribute", "slot", "rule", "table", "price")
        behind = {
            (): ("product",), ("product",): ("port",), ("product", "port"): ("attribute", "port", "component"),
            ("product", "port", "attribute"): ("attribute", "port", "component"),
            ("product", "port", "component"): ("plug",),
        }
        start = ("product", "port", "component", "plug")
        for at in range(len(rest)):
            behind[start + rest[:at]] = rest[max(at - 1, 0):]
        behind[start + rest] = behind[start + rest + ("charge",)] = ("charge", "component")
        behind[start + rest + ("component",)] = ("plug",)
        behind[start + ("price",)] = ("charge", "component")
        for forms, following in behind.items():
            for form, line in LINES.items():
                text = "\n".join([LINES[earlier] for earlier in forms] + [line])
                if form in following:
                    if form in ("price", "charge"):
                        read_definition(text)
                    else:
                        self.check_error(text, errors.MissingLine, len(forms) + 1)
                else:
                    self.check_error(text, errors.MisplacedLine, len(forms))

    def test_a_misplaced_line_whose_condition_is_not_read(self):
        self.check_error("rule ((", errors.MisplacedLine, 0)
        self.check_error(text_with(charges=["charge 5 when true", "rule"]), errors.MisplacedLine, 6)
        self.check_error("product a\ncharge 2000000 when", errors.MisplacedLine, 1)

    def test_a_misplaced_line_that_is_too_large(self):
        self.check_error("product a\nx: 1 to 99", errors.MisplacedLine, 1)
        self.check_error("price 2000000", errors.MisplacedLine, 0)

    def test_attributes_behind_slots(self):
        self.check_error(text_with("slot a: side", "x: 1 to 2"), errors.MisplacedLine, 5)


class TestInvalidConditions(TestCase):
    def test_each_error_of_conditions(self):
        for text in (
            "", "(", "a b", "a.b.c", "1234567", "a" * 21, '""', "(" * 201, "not " * 31 + "a", "not " * 16 + "a",
            " + ".join(["1"] * 31), "a <", ".", ". 1", "&",
        ):
            self.check_line(("rule " + text).strip(), errors.InvalidCondition)
            charges = ["charge 5 when true", ("charge 5 when " + text).strip()]
            self.check_error(text_with(charges=charges), errors.InvalidCondition, 6)

    def test_a_full_stop_behind_the_word(self):
        self.check_line("rule.", errors.InvalidCondition)
        self.check_line("rule.1 < 2", errors.InvalidCondition)

    def test_before_a_definition_that_is_too_large(self):
        rules = ["rule true"] * 4
        self.check_error(text_with(*rules, "rule ("), errors.InvalidCondition, 8)
        self.check_error(text_with(*rules, "rule a"), errors.DefinitionTooLarge, 8)
        self.check_error(text_with(charges=["charge 2000000 when"]), errors.InvalidCondition, 5)
        self.check_error(text_with(charges=["charge 2000000 when true"]), errors.DefinitionTooLarge, 5)


class TestTooLarge(TestCase):
    def test_lines_of_each_form(self):
        for line, many in (("x: 1 to 2", 3), ('x: "a"', 3), ("slot a: b", 3), ("rule true", 4), ("table x: 1", 2)):
            read_definition(text_with(*([line] * many)))
            self.check_error(text_with(*([line] * (many + 1))), errors.DefinitionTooLarge, 4 + many)
        charge = "charge 5 when true"
        read_definition(text_with(charges=[charge] * 4))
        self.check_error(text_with(charges=[charge] * 5), errors.DefinitionTooLarge, 9)

    def test_port_kinds_and_their_attributes(self):
        tail = "\n" + "\n".join(SHORT[2:])
        port = "\nport p" + "\nx: 1 to 2" * 3
        definition = read_definition("product side" + port * 6 + tail)
        self.assertEqual(definition[0], (("p", (("x", ("range", 1, 2)),) * 3),) * 6)
        self.check_error("product side" + port * 7 + tail, errors.DefinitionTooLarge, 25)
        self.check_error("product side" + port + "\nx: 1 to 2" + tail, errors.DefinitionTooLarge, 5)

    def test_components(self):
        one = "\n" + "\n".join(SHORT[2:])
        full = "".join("\n" + line for line in (
            "component a", "plug b", *["x: 1 to 2"] * 3, *["slot a: b"] * 3, *["rule true"] * 4, *["table x: 1"] * 2,
            "price 1", *["charge 1 when true"] * 4,
        ))
        self.assertEqual(len(read_definition("product side\nport side" + full * 12)[1]), 12)
        self.check_error("product side\nport side" + one * 13, errors.DefinitionTooLarge, 2 + 3 * 12)
        self.check_error("product side\nport side" + full * 12 + one, errors.DefinitionTooLarge, 2 + 19 * 12)

    def test_options_columns_and_rows(self):
        read_definition(text_with('x: "a", "b", "c", "d"', "table a, b, c: 1, 2, 3", "table a: " + "; ".join("1" * 12)))
        self.check_line('x: "a", "b", "c", "d", "e"', errors.DefinitionTooLarge)
        self.check_line("table a, b, c, d: 1, 2, 3, 4", errors.DefinitionTooLarge)
        self.check_line("table a: " + "; ".join("1" * 13), errors.DefinitionTooLarge)
        self.check_line("table a: " + "; ".join("1" * 300), errors.DefinitionTooLarge)
        self.check_line("table " + ", ".join("a" * 120) + ": " + ", ".join("1" * 120), errors.DefinitionTooLarge)

    def test_ranges(self):
        for line in (
            "x: 0 to 6", "x: -3 to 3", "x: 0 to 100000", "x: 100000 to 100001", "x: -100001 to -100000",
            "x: 100001 to 100000", "x: 5 to -100001", "x: 9999999 to 0", "x: 0 to 9999999",
        ):
            self.check_line(line, errors.DefinitionTooLarge)

    def test_numbers_beyond_their_bounds(self):
        self.check_line("table a: 1000001", errors.DefinitionTooLarge)
        self.check_line('table a, b: 1, "x"; 1, -1000001', errors.DefinitionTooLarge)
        self.check_line("price 1000001", errors.DefinitionTooLarge)
        self.check_line("price 9999999", errors.DefinitionTooLarge)
        self.check_error(text_with(charges=["charge 1000001 when true"]), errors.DefinitionTooLarge, 5)

    def test_the_bounds_hold_for_each_component(self):
        lines = ("x: 1 to 2",) * 3 + ("slot a: b",) * 3 + ("rule a",) * 4 + ("table a: 1",) * 2
        text = text_with(*lines) + "\n" + "\n".join(SHORT[2:4] + lines + ("price 2",))
        self.assertEqual([len(component[4]) for component in read_definition(text)[1]], [4, 4])

    def test_the_first_line_with_an_error(self):
        self.check_error(text_with("x: 0 to 6", "?"), errors.DefinitionTooLarge, 4)
        self.check_error(text_with("?", "x: 0 to 6"), errors.UnknownLine, 4)
        self.check_error(text_with("rule (", "slot a: b"), errors.InvalidCondition, 4)


class TestMissingLines(TestCase):
    def test_texts_that_end_too_early(self):
        self.check_error("", errors.MissingLine, 1)
        self.check_error("   ", errors.MissingLine, 1)
        self.check_error("\n\n", errors.MissingLine, 3)
        lines = CABINETS_TEXT.split("\n")
        for many in range(len(lines)):
            text = "\n".join(lines[:many])
            if many < 10:
                self.check_error(text, errors.MissingLine, max(many, 1))
                self.check_error(text + "\n\n ", errors.MissingLine, max(many, 1) + 2)
            else:
                read_definition(text)

    def test_a_second_component_that_is_not_complete(self):
        text = "\n".join(SHORT) + "\ncomponent other"
        self.check_error(text, errors.MissingLine, 6)
        self.check_error(text + "\nplug side\nrule true\n", errors.MissingLine, 9)


class TestShowDefinition(TestCase):
    def test_values_and_spaces(self):
        table = (("a", "b.c", "plug.x"), ((-1, "x y", 0), (10 ** 6, "-1", -10 ** 6)))
        definition = panel(
            [("a", ("range", -5, 0)), ("b", ("options", ("x", " y ", "1")))], [("s", "t"), ("u", "side")],
            [read_condition("(a)+ 1<  2")], [table, (("a",), ((5,),))], 0, [(read_condition('"x"="x"'), 0)],
        )
        expected = (
            'product side\nport side\ncomponent panel\n  plug side\n  a: -5 to 0\n  b: "x", " y ", "1"\n  slot s: t\n'
            '  slot u: side\n  rule a + 1 < 2\n  table a, b.c, plug.x: -1, "x y", 0; 1000000, "-1", -1000000\n'
            '  table a: 5\n  price 0\n  charge 0 when "x" = "x"'
        )
        self.assertEqual(show_definition(definition), expected)
        self.check(expected, definition)

    def test_several_ports_and_components(self):
        ports = (("a", ()), ("b", (("x", ("range", 2, 1)),)), ("c", ()))
        definition = (ports, (PANEL, CABINET, PANEL), "nowhere")
        lines = show_definition(definition).split("\n")
        self.assertEqual(lines[:7], [
            "product nowhere", "port a", "port b", "  x: 2 to 1", "port c", "component panel", "  plug side",
        ])
        self.check("\n".join(lines), definition)


class TestByChance(TestCase):
    NAMES = ("a", "b2", "rule", "to", "when", "port", "price", "slot", "charge", "table", "Product", "z" * 20)
    OPTIONS = ("x", " ", "a, b", ": ;", "rule", "y" * 20, "-1", "(")

    def attributes(self, chance):
        """Some attributes, with ranges that may be empty and options that may occur twice."""
        found = []
        for _ in range(chance.randint(0, 3)):
            low = chance.choice((-100000, -1, 0, 99995))
            options = tuple(chance.choice(self.OPTIONS) for _ in range(chance.randint(1, 4)))
            domain = chance.choice((("options", options), ("range", low, low + chance.randint(0, 5)), ("range", low, -7)))
            if domain[0] == "range" and domain[2] - domain[1] > 5:
                domain = ("range", 3, 2)
            found.append((chance.choice(self.NAMES), domain))
        return tuple(found)

    def table(self, chance):
        """A table of names and values that need not exist."""
        many = chance.randint(1, 3)
        columns = tuple(chance.choice(self.NAMES + ("plug.x", "not.and", "plug")) for _ in range(many))
        values = (0, -10 ** 6, 10 ** 6, 12) + self.OPTIONS
        rows = tuple(tuple(chance.choice(values) for _ in range(many)) for _ in range(chance.randint(1, 12)))
        return (columns, rows)

    def definition(self, chance):
        """A definition within the bounds of point 60, in most cases one that is not valid."""
        def name():
            return chance.choice(self.NAMES)

        def condition():
            return expression_by_chance(chance, chance.randint(1, 5))

        ports = tuple((name(), self.attributes(chance)) for _ in range(chance.randint(1, 6)))
        components = tuple((
            name(), name(), self.attributes(chance), tuple((name(), name()) for _ in range(chance.randint(0, 3))),
            tuple(condition() for _ in range(chance.randint(0, 4))),
            tuple(self.table(chance) for _ in range(chance.randint(0, 2))), chance.choice((0, 1, 10 ** 6)),
            tuple((condition(), chance.choice((0, 10 ** 6))) for _ in range(chance.randint(0, 4))),
        ) for _ in range(chance.randint(1, 12)))
        return (ports, components, name())

    def test_what_is_printed_is_read_as_the_definition(self):
        chance = random.Random(7)
        for _ in range(300):
            definition = self.definition(chance)
            text = show_definition(definition)
            self.assertTrue(all(len(line) <= 2000 for line in text.split("\n")))
            self.check(text, definition)
            for line in text.split("\n"):
                self.assertRegex(line, "^((product|port|component) [^ ]+|  [^ ].*[^ ])$")
            for rule in definition[1][0][4]:
                self.assertIn("\n  rule " + show_condition(rule) + "\n", text)

    def test_lines_against_patterns(self):
        chance = random.Random(8)
        pieces = ("rule", "charge", "when", "slot", "table", "price", "plug", "a", "b.c", ".", ":", ":", ",", ";", "-", "1",
                  "0000007", "12345678", '"x"', '"', " ", " ", " ", "to", "=", "and", "abcdefghijk")
        starts = ("a:", "rule", "charge 5 when", "charge", "slot a:", "table a:", "table a, b:", "price", "b: 1 to", "")
        seen = {True: 0, False: 0}
        for _ in range(12000):
            line = chance.choice(starts) + "".join(chance.choice(pieces) for _ in range(chance.randint(0, 6)))
            if line.strip():
                known = self.form_by_pattern(line.strip()) is not None
                seen[known] += 1
                # Alone, a line of any form but `product` is misplaced.
                self.check_error(line, errors.MisplacedLine if known else errors.UnknownLine, 0)
        self.assertGreater(min(seen.values()), 1000)

    def form_by_pattern(self, line):
        """The form of a line by patterns, None if it has none."""
        end = r"(?![A-Za-z0-9])"
        word = rf"[A-Za-z][A-Za-z0-9]{{0,19}}{end}"
        alone = rf"{end}(?!\.[A-Za-z])"
        barred = rf"(?!(and|or|not|implies|true|false){alone})"
        name = rf"{barred}(?!(plug|component){alone}){word}(?!\.[A-Za-z])"
        column = rf"({word}\.{word}|{barred}{word}(?!\.[A-Za-z]))"
        number = r"[0-9]{1,7}(?![0-9])"
        integer = rf"(- *)?{number}"
        option = '"[^"]{1,20}"'
        value = rf"({integer}|{option})"
        first = re.match(rf'({word}(\.{word})?|{number}|{option}|[-,;:]) *(?=:)', line)
        patterns = {"attribute": rf"{name} *: *({option}( *, *{option})*|{integer} *to{alone} *{integer})"}
        if first is None or line.startswith(":") and not line[1:].strip().startswith(":"):
            patterns.update({
                "name": rf"(product|port|component|plug){alone} *{name}", "price": rf"price{alone} *{number}",
                "slot": rf"slot{alone} *{name} *: *{name}", "rule": rf"rule{alone}.*",
                "charge": rf"charge{alone} *{number} *when{alone}.*",
                "table": rf"table{alone} *{column}( *, *{column})* *: *{value}( *[,;] *{value})*",
            })
        for form, pattern in patterns.items():
            if re.fullmatch(pattern, line):
                if form != "table":
                    return form
                bare = re.sub('"[^"]*"', "0", line)
                columns, rows = bare.split(":")
                if {row.count(",") for row in rows.split(";")} == {columns.count(",")}:
                    return form
        return None


class TestArgumentsAlone(unittest.TestCase):
    def test_one_definition_after_another(self):
        check_independent(self, read_definition, ("\n".join(SHORT),), (CABINETS_TEXT,))
        check_independent(self, show_definition, (CABINETS,), (LAMPS,))

    def test_a_refused_text_leaves_nothing_behind(self):
        for text in (CABINETS_TEXT + "\nrule true", text_with("x: 1 to 2", "?")):
            with self.assertRaises(errors.LineError):
                read_definition(text)
            self.assertEqual(read_definition(CABINETS_TEXT), CABINETS)
            self.assertEqual(read_definition("\n".join(SHORT)), ((("side", ()),), (PANEL,), "side"))


if __name__ == "__main__":
    unittest.main()
