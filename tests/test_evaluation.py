"""Tests of slotwise/evaluation.py: point 23, with 20 and 22."""

import random
import unittest

from slotwise.conditions import kind_of
from slotwise.errors import NotCondition, SlotError, UnknownVariable, WrongOperands
from slotwise.evaluation import holds, value_of
from tests.helpers import check_independent, expression_by_chance, variable

TRUE = ("true",)
FALSE = ("false",)
VALUES = (("a", -7), ("b.size", "red"), ("minus", 10 ** 6), ("not.and", "1"), ("one", 1))


def number(value):
    """The expression of this number, perhaps a negative one."""
    return ("number", value) if value >= 0 else ("minus", ("number", -value))


def in_python(expression, values):
    """The expression in Python's own words."""
    head = expression[0]
    if head in ("number", "option"):
        return repr(expression[1])
    if head == "variable":
        return repr(dict(values)[expression[1]])
    if head in ("true", "false"):
        return head.title()
    operands = ["(" + in_python(operand, values) + ")" for operand in expression[1:]]
    if head in ("minus", "not"):
        return ("-" if head == "minus" else "not ") + operands[0]
    if head == "implies":
        return f"(not {operands[0]}) or {operands[1]}"
    return f"{operands[0]} {'==' if head == '=' else head} {operands[1]}"


class TestCase(unittest.TestCase):
    def check_value(self, expression, values, expected):
        """Check the value, and that it has exactly the kind of the expected one."""
        found = value_of(expression, values)
        self.assertEqual(found, expected)
        self.assertIs(type(found), type(expected))

    def check_error(self, ask, error, **attributes):
        """Check that exactly this error is raised, with these attributes."""
        with self.assertRaises(SlotError) as caught:
            ask()
        self.assertEqual((type(caught.exception), vars(caught.exception)), (error, attributes))


class TestValueOf(TestCase):
    def test_examples(self):
        self.check_value(("*", ("minus", variable("a")), variable("a")), (("a", 3),), -9)
        self.assertIs(holds(("implies", ("!=", variable("a"), ("number", 1)), FALSE), (("a", 1),)), True)
        self.check_error(lambda: holds(("or", TRUE, variable("b")), ()), UnknownVariable, name="b")

    def test_expressions_without_operands(self):
        for expression, value in (
            (("number", 0), 0), (("number", 999999), 999999), (("option", "red"), "red"), (("option", "true"), "true"),
            (TRUE, True), (FALSE, False), (variable("a"), -7), (variable("b.size"), "red"), (variable("minus"), 10 ** 6),
            (variable("not.and"), "1"),
        ):
            self.check_value(expression, VALUES, value)

    def test_arithmetic(self):
        for first in (-7, -1, 0, 1, 999999):
            self.check_value(("minus", number(first)), (), -first)
            for second in (-3, 0, 2):
                self.check_value(("+", number(first), number(second)), (), first + second)
                self.check_value(("-", number(first), number(second)), (), first - second)
                self.check_value(("*", number(first), number(second)), (), first * second)

    def test_integers_of_any_size(self):
        product = variable("x")
        for _ in range(5):
            product = ("*", product, product)
        self.check_value(product, (("x", -10 ** 6),), 10 ** 192)
        self.check_value(("-", ("minus", product), ("number", 1)), (("x", 999999),), -999999 ** 32 - 1)
        more = ("+", product, ("number", 1))
        self.check_value((">", more, product), (("x", 10 ** 6),), True)
        self.check_value(("=", more, product), (("x", 10 ** 6),), False)

    def test_comparisons_of_numbers(self):
        for first, second in ((1, 2), (2, 2), (3, 2), (-2, 2), (-3, -2), (-2, -3)):
            operands = (number(first), variable("x"))
            values = (("x", second),)
            self.check_value(("=", *operands), values, first == second)
            self.check_value(("!=", *operands), values, first != second)
            self.check_value(("<", *operands), values, first < second)
            self.check_value(("<=", *operands), values, first <= second)
            self.check_value((">", *operands), values, first > second)
            self.check_value((">=", *operands), values, first >= second)

    def test_options(self):
        for first, second in (("red", "red"), ("red", "Red"), ("a", "a "), ("1", "01"), (" ", " ")):
            operands = (("option", first), variable("x"))
            self.check_value(("=", *operands), (("x", second),), first == second)
            self.check_value(("!=", *operands), (("x", second),), first != second)

    def test_connectives(self):
        for first in (TRUE, FALSE):
            one = first == TRUE
            self.check_value(("not", first), (), not one)
            for second in (TRUE, FALSE):
                other = second == TRUE
                self.check_value(("and", first, second), (), one and other)
                self.check_value(("or", first, second), (), one or other)
                self.check_value(("implies", first, second), (), not (one and not other))

    def test_only_the_variables_that_occur_matter(self):
        expression = ("<", ("+", variable("a"), variable("one")), variable("minus"))
        self.check_value(expression, VALUES, True)
        self.check_value(expression, VALUES[::-1], True)
        self.check_value(expression, VALUES + (("c", "x"), ("d", 0)), True)
        self.check_value(expression, (("minus", -6), ("one", 1), ("a", -7)), False)
        self.check_value(("number", 3), tuple((f"v{at}", at) for at in range(30)), 3)

    def test_against_python(self):
        chance = random.Random(1)
        kinds = tuple((name, "option" if isinstance(value, str) else "number") for name, value in VALUES)
        names = tuple(name for name, _ in VALUES)
        checked = {"number": 0, "option": 0, "condition": 0}
        for _ in range(20000):
            expression = expression_by_chance(chance, 4, names)
            try:
                kind = kind_of(expression, kinds)
            except SlotError as error:
                self.check_error(lambda: value_of(expression, VALUES), type(error), **vars(error))
                self.check_error(lambda: holds(expression, VALUES), type(error), **vars(error))
            else:
                checked[kind] += 1
                self.check_value(expression, VALUES, eval(in_python(expression, VALUES)))
                if kind == "condition":
                    self.assertIs(holds(expression, VALUES), value_of(expression, VALUES))
                else:
                    self.check_error(lambda: holds(expression, VALUES), NotCondition)
        self.assertGreater(min(checked.values()), 500)

    def test_the_deepest_expressions(self):
        expression = TRUE
        for _ in range(15):
            expression = ("not", expression)
        self.check_value(expression, (), False)


class TestFaults(TestCase):
    def check_fault(self, expression, values, error, **attributes):
        """Check that both functions raise exactly this error."""
        self.check_error(lambda: value_of(expression, values), error, **attributes)
        self.check_error(lambda: holds(expression, values), error, **attributes)

    def test_unknown_variables(self):
        self.check_fault(variable("a"), (), UnknownVariable, name="a")
        self.check_fault(variable("A"), (("a", 1),), UnknownVariable, name="A")
        self.check_fault(variable("size"), (("b.size", 1),), UnknownVariable, name="size")

    def test_an_integer_and_an_option(self):
        for operator in ("=", "!=", "<", "<=", ">", ">="):
            self.check_fault((operator, variable("one"), ("option", "1")), VALUES, WrongOperands, operator=operator)
            self.check_fault((operator, variable("b.size"), number(1)), VALUES, WrongOperands, operator=operator)

    def test_wrong_operands(self):
        for expression in (
            ("minus", ("option", "1")), ("minus", TRUE), ("+", TRUE, number(1)), ("*", ("option", "a"), number(2)),
            ("<", ("option", "a"), ("option", "b")), ("=", TRUE, TRUE), ("not", number(0)), ("and", TRUE, number(1)),
            ("or", ("option", "true"), FALSE), ("implies", FALSE, number(0)),
        ):
            self.check_fault(expression, (), WrongOperands, operator=expression[0])

    def test_faults_on_which_the_value_would_not_depend(self):
        wrong = ("not", number(1))
        for expression in (
            ("or", TRUE, wrong), ("and", FALSE, wrong), ("implies", FALSE, wrong), ("implies", wrong, TRUE),
            ("=", ("*", number(0), ("minus", wrong)), number(0)),
        ):
            self.check_fault(expression, (), WrongOperands, operator="not")
        self.check_fault(("and", FALSE, variable("x")), (), UnknownVariable, name="x")

    def test_the_first_of_several_faults(self):
        wrong = ("not", number(1))
        self.check_fault(("and", wrong, variable("x")), (), WrongOperands, operator="not")
        self.check_fault(("and", variable("x"), wrong), (), UnknownVariable, name="x")
        self.check_fault(("+", ("and", TRUE, variable("y")), variable("x")), (), UnknownVariable, name="y")
        self.check_fault(("<", ("+", TRUE, number(1)), variable("x")), (), WrongOperands, operator="+")
        self.check_fault(("<", TRUE, ("*", TRUE, TRUE)), (), WrongOperands, operator="*")

    def test_not_a_condition(self):
        for expression in (number(1), ("option", "true"), variable("a"), ("+", number(1), number(1))):
            self.check_error(lambda: holds(expression, VALUES), NotCondition)
            self.assertNotIsInstance(value_of(expression, VALUES), bool)
        self.check_error(lambda: holds(("+", number(1), variable("z")), VALUES), UnknownVariable, name="z")
        self.check_error(lambda: holds(("+", number(1), TRUE), VALUES), WrongOperands, operator="+")


class TestArgumentsAlone(unittest.TestCase):
    def test_one_condition_after_another(self):
        condition = ("<", variable("a"), ("number", 2))
        for ask in (value_of, holds):
            check_independent(self, ask, (condition, (("a", 1),)), (condition, (("a", 2),)))
            check_independent(self, ask, (condition, (("a", 1),)), (FALSE, ()))


if __name__ == "__main__":
    unittest.main()
