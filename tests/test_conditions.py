"""Tests of slotwise/conditions.py: points 20 to 22."""

import random
import unittest

from slotwise.conditions import check_condition, kind_of, measure, variables_in
from slotwise.errors import NotCondition, SlotError, UnknownVariable, WrongOperands
from tests.helpers import check_independent, is_plain

KINDS = (("a", "number"), ("plug.size", "option"), ("not.and", "number"))
NUMBERS = (("number", 0), ("variable", "a"), ("minus", ("number", 999999)), ("*", ("number", 1), ("variable", "not.and")))
OPTIONS = (("option", "red"), ("option", "and"), ("variable", "plug.size"))
CONDITIONS = (("true",), ("false",), ("not", ("true",)), ("=", ("number", 1), ("number", 2)))
EXAMPLES = {"number": NUMBERS, "option": OPTIONS, "condition": CONDITIONS}
ARITHMETIC = ("+", "-", "*")
EQUALITIES = ("=", "!=")
ORDERS = ("<", "<=", ">", ">=")
CONNECTIVES = ("and", "or", "implies")
BINARY = ARITHMETIC + EQUALITIES + ORDERS + CONNECTIVES


def expected_kind(operator, kinds):
    """The kind by the table of point 20, None if there is none."""
    if operator in ("minus",) + ARITHMETIC:
        return "number" if set(kinds) == {"number"} else None
    if operator in EQUALITIES:
        return "condition" if set(kinds) in ({"number"}, {"option"}) else None
    if operator in ORDERS:
        return "condition" if set(kinds) == {"number"} else None
    return "condition" if set(kinds) == {"condition"} else None


def deep(depth):
    """An expression with this depth and as many places."""
    expression = ("variable", "a")
    for _ in range(depth - 1):
        expression = ("minus", expression)
    return expression


def with_60_places():
    """A condition with 60 places: a sum of 28 variables, compared with a number, behind three times `not`."""
    leaves = [("variable", f"v{number}") for number in range(28)]
    level = leaves
    while len(level) > 1:
        level = [("+", level[at], level[at + 1]) for at in range(0, len(level) - 1, 2)] + level[len(level) // 2 * 2:]
    return ("not", ("not", ("not", ("<", level[0], ("number", 1)))))


class TestMeasure(unittest.TestCase):
    def test_example(self):
        self.assertEqual(measure(("and", ("variable", "a"), ("not", ("true",)))), (4, 3))

    def test_expressions_without_operands(self):
        for leaf in (("number", 7), ("option", "not"), ("true",), ("false",), ("variable", "minus")):
            self.assertEqual(measure(leaf), (1, 1))

    def test_each_operator(self):
        for operator in BINARY:
            self.assertEqual(measure((operator, ("number", 1), ("option", operator))), (3, 2))
            self.assertEqual(measure((operator, ("not", ("true",)), ("number", 1))), (4, 3))
            self.assertEqual(measure((operator, ("number", 1), ("minus", ("minus", ("true",))))), (5, 4))
        for operator in ("minus", "not"):
            self.assertEqual(measure((operator, ("number", 1))), (2, 2))

    def test_what_occurs_several_times_counts_each_time(self):
        inner = ("*", ("variable", "a"), ("variable", "a"))
        self.assertEqual(measure(("=", inner, inner)), (7, 3))

    def test_60_places_and_depth_16(self):
        self.assertEqual(measure(deep(16)), (16, 16))
        self.assertEqual(measure(with_60_places()), (60, 10))
        self.assertTrue(is_plain(measure(with_60_places())))
        self.assertEqual(measure(("and", with_60_places(), deep(16))), (77, 17))


class TestVariablesIn(unittest.TestCase):
    def test_example(self):
        expression = ("=", ("variable", "b.size"), ("+", ("variable", "a"), ("variable", "b.size")))
        self.assertEqual(variables_in(expression), ("b.size", "a"))

    def test_none(self):
        for expression in (("number", 7), ("option", "a"), ("true",), ("not", ("=", ("option", "variable"), ("number", 1)))):
            self.assertEqual(variables_in(expression), ())

    def test_first_occurrences_from_left_to_right(self):
        left = ("and", ("variable", "c"), ("not", ("variable", "a")))
        right = ("implies", ("variable", "b"), ("-", ("variable", "c"), ("minus", ("variable", "d.e"))))
        self.assertEqual(variables_in(("or", left, right)), ("c", "a", "b", "d.e"))
        self.assertEqual(variables_in(("or", right, left)), ("b", "c", "d.e", "a"))

    def test_each_operator(self):
        for operator in BINARY:
            self.assertEqual(variables_in((operator, ("variable", "y"), ("variable", "x"))), ("y", "x"))
        for operator in ("minus", "not"):
            self.assertEqual(variables_in((operator, ("variable", "y"))), ("y",))

    def test_60_places_and_depth_16(self):
        self.assertEqual(variables_in(with_60_places()), tuple(f"v{number}" for number in range(28)))
        self.assertEqual(variables_in(deep(16)), ("a",))


class TestKindOf(unittest.TestCase):
    def test_examples(self):
        self.assertEqual(kind_of(("+", ("number", 1), ("variable", "length")), (("length", "number"),)), "number")
        with self.assertRaises(UnknownVariable) as caught:
            kind_of(("<", ("option", "red"), ("variable", "width")), ())
        self.assertEqual(caught.exception.name, "width")

    def test_expressions_without_operands(self):
        for kind, expressions in EXAMPLES.items():
            for expression in expressions:
                self.assertEqual(kind_of(expression, KINDS), kind)
        for name in ("b", "size", "plug", "plug.a", "A"):
            with self.assertRaises(UnknownVariable) as caught:
                kind_of(("variable", name), KINDS)
            self.assertEqual(caught.exception.name, name)

    def test_each_row_of_the_table(self):
        for operator in ("minus", "not"):
            for kind, expressions in EXAMPLES.items():
                for expression in expressions:
                    self.check((operator, expression), expected_kind(operator, (kind,)))
        for operator in BINARY:
            for first, lefts in EXAMPLES.items():
                for second, rights in EXAMPLES.items():
                    for left in lefts:
                        for right in rights:
                            self.check((operator, left, right), expected_kind(operator, (first, second)))

    def check(self, expression, expected):
        """Check the kind, or that its operator is refused if there is none."""
        if expected is None:
            with self.assertRaises(WrongOperands) as caught:
                kind_of(expression, KINDS)
            self.assertEqual(caught.exception.operator, expression[0])
        else:
            self.assertEqual(kind_of(expression, KINDS), expected)

    def test_the_first_fault(self):
        unknown = ("variable", "x")
        wrong = ("<", ("option", "red"), ("number", 1))
        deeper = ("and", ("true",), ("not", ("number", 1)))
        for operator in BINARY:
            for left, right, error, told in (
                (unknown, ("true",), UnknownVariable, "x"),
                (("option", "red"), unknown, UnknownVariable, "x"),
                (wrong, unknown, WrongOperands, "<"),
                (unknown, wrong, UnknownVariable, "x"),
                (deeper, wrong, WrongOperands, "not"),
                (wrong, deeper, WrongOperands, "<"),
                (("number", 1), deeper, WrongOperands, "not"),
                (("variable", "y"), unknown, UnknownVariable, "y"),
                (("option", "red"), ("true",), WrongOperands, operator),
            ):
                with self.assertRaises(error) as caught:
                    kind_of((operator, left, right), KINDS)
                found = caught.exception
                self.assertEqual(found.name if error is UnknownVariable else found.operator, told)

    def test_faults_that_would_not_matter_for_the_value(self):
        with self.assertRaises(UnknownVariable):
            kind_of(("or", ("true",), ("variable", "b")), KINDS)
        with self.assertRaises(WrongOperands):
            kind_of(("implies", ("false",), ("number", 1)), KINDS)

    def test_60_places_and_depth_16(self):
        kinds = tuple((f"v{number}", "number") for number in range(28))
        self.assertEqual(kind_of(with_60_places(), kinds), "condition")
        self.assertEqual(kind_of(deep(16), KINDS), "number")
        with self.assertRaises(UnknownVariable) as caught:
            kind_of(with_60_places(), kinds[:27])
        self.assertEqual(caught.exception.name, "v27")
        with self.assertRaises(WrongOperands) as caught:
            kind_of(with_60_places(), kinds[:13] + (("v13", "option"),) + kinds[14:])
        self.assertEqual(caught.exception.operator, "+")

    def test_30_known_variables(self):
        kinds = tuple((f"v{number}", ("number", "option")[number % 2]) for number in range(30))
        for number in range(30):
            self.assertEqual(kind_of(("variable", f"v{number}"), kinds), ("number", "option")[number % 2])

    def test_against_examining_in_the_order_of_point_22(self):
        chance = random.Random(3)
        faulty = 0
        for _ in range(3000):
            expression = self.by_chance(chance, 4)
            told = self.examined(expression)
            if isinstance(told, str):
                self.assertEqual(kind_of(expression, KINDS), told)
            else:
                faulty += 1
                with self.assertRaises(told[0]) as caught:
                    kind_of(expression, KINDS)
                self.assertEqual(list(vars(caught.exception).values()), [told[1]])
        self.assertGreater(faulty, 1000)

    def by_chance(self, chance, depth):
        """An expression of at most this depth."""
        if depth == 1 or chance.random() < 0.1:
            return chance.choice(NUMBERS[:2] * 3 + OPTIONS + CONDITIONS[:2] + (("variable", "x"),))
        if chance.random() < 0.2:
            return (chance.choice(("minus", "not")), self.by_chance(chance, depth - 1))
        return (chance.choice(BINARY), self.by_chance(chance, depth - 1), self.by_chance(chance, depth - 1))

    def examined(self, expression):
        """The kind, or the pair of the error and its attribute."""
        if expression[0] == "variable":
            return dict(KINDS).get(expression[1], (UnknownVariable, expression[1]))
        for kind, expressions in EXAMPLES.items():
            if expression in expressions:
                return kind
        kinds = []
        for operand in expression[1:]:
            kinds.append(self.examined(operand))
            if not isinstance(kinds[-1], str):
                return kinds[-1]
        return expected_kind(expression[0], kinds) or (WrongOperands, expression[0])


class TestCheckCondition(unittest.TestCase):
    def test_conditions(self):
        for condition in CONDITIONS + (with_60_places(),):
            kinds = tuple((f"v{number}", "number") for number in range(28))
            self.assertIsNone(check_condition(condition, kinds))

    def test_no_conditions(self):
        for expression in NUMBERS + OPTIONS + (deep(16),):
            with self.assertRaises(NotCondition):
                check_condition(expression, KINDS)

    def test_an_expression_with_a_fault_is_not_refused_as_no_condition(self):
        for expression, error in (
            (("+", ("number", 1), ("variable", "x")), UnknownVariable),
            (("variable", "x"), UnknownVariable),
            (("minus", ("true",)), WrongOperands),
            (("+", ("option", "red"), ("number", 1)), WrongOperands),
            (("and", ("true",), ("number", 1)), WrongOperands),
        ):
            with self.assertRaises(SlotError) as caught:
                check_condition(expression, KINDS)
            self.assertIs(type(caught.exception), error)


class TestArgumentsAlone(unittest.TestCase):
    def test_one_expression_after_another(self):
        check_independent(self, measure, (deep(3),), (("true",),))
        check_independent(self, variables_in, (deep(3),), (("variable", "b"),))
        check_independent(self, kind_of, (("variable", "a"), KINDS), (("variable", "a"), (("a", "option"),)))


if __name__ == "__main__":
    unittest.main()
