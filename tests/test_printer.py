"""Tests of slotwise/printer.py: point 45."""

import random
import unittest

from slotwise.errors import SlotError
from slotwise.printer import show_condition
from slotwise.reader import read_condition
from slotwise.tokens import tokens_of
from tests.helpers import check_independent, expression_by_chance, variable

A, B, C, D = (variable(name) for name in "abcd")
LEAVES = (A, ("number", 3), ("option", "x"), ("true",), ("false",))
COMPARISONS = ("=", "!=", "<", "<=", ">", ">=")
TWO = ("+", "-", "*") + COMPARISONS + ("and", "or", "implies")
SUMS = ("+", "-")
ALL = TWO + ("not", "minus")

# The table of point 45: for each operator and each operand the operators that are in parentheses.
TABLE = {
    "minus": (TWO + ("not",),),
    "*": (tuple(sign for sign in TWO if sign != "*") + ("not",), TWO + ("not",)),
    "not": (("and", "or", "implies"),),
    "and": (("or", "implies"), ("and", "or", "implies")),
    "or": (("implies",), ("or", "implies")),
    "implies": (("implies",), ()),
}
TABLE.update({sign: (
    COMPARISONS + ("and", "or", "implies", "not"), tuple(sign for sign in TWO if sign != "*") + ("not",),
) for sign in SUMS})
TABLE.update({sign: ((COMPARISONS + ("not", "and", "or", "implies")),) * 2 for sign in COMPARISONS})


def with_operands(operator, leaf):
    """An expression with this operator."""
    return (operator, leaf) if operator in ("not", "minus") else (operator, leaf, B)


class TestShowCondition(unittest.TestCase):
    def check(self, expression, text):
        """Check the printed form, and that it is read as the expression."""
        self.assertEqual(show_condition(expression), text)
        self.assertEqual(read_condition(text), expression)

    def test_examples(self):
        for text, printed in (
            ('(length+1)*2<width and(not(plug.size!="small"))', '(length + 1) * 2 < width and not plug.size != "small"'),
            ("(a implies b)implies(c implies d)", "(a implies b) implies c implies d"),
            ("(a-b)-(c-d)*(e)", "a - b - (c - d) * e"), ("-(-007) = -(a*b)", "--7 = -(a * b)"),
        ):
            self.check(read_condition(text), printed)

    def test_expressions_without_operands(self):
        for expression, text in (
            (("number", 0), "0"), (("number", 999999), "999999"), (("option", "a b"), '"a b"'), (("option", " "), '" "'),
            (("option", "not"), '"not"'), (("true",), "true"), (("false",), "false"), (A, "a"),
            (variable("plug.size"), "plug.size"), (variable("not.true"), "not.true"), (variable("minus"), "minus"),
        ):
            self.check(expression, text)

    def test_spaces(self):
        for sign in TWO:
            self.check((sign, A, B), f"a {sign} b")
        self.check(("minus", A), "-a")
        self.check(("not", A), "not a")
        self.check(("-", A, ("minus", B)), "a - -b")
        self.check(("minus", ("minus", ("minus", A))), "---a")
        self.check(("not", ("not", ("minus", A))), "not not -a")

    def test_each_row_of_the_table(self):
        for operator in ALL:
            for at, rows in enumerate(TABLE[operator]):
                for inner in ALL:
                    operand = with_operands(inner, A)
                    shown = show_condition(operand)
                    wanted = f"({shown})" if inner in rows else shown
                    if operator in ("minus", "not"):
                        self.check((operator, operand), ("-" if operator == "minus" else "not ") + wanted)
                    elif at == 0:
                        self.check((operator, operand, C), f"{wanted} {operator} c")
                    else:
                        self.check((operator, C, operand), f"c {operator} {wanted}")

    def test_operands_without_operands_are_never_in_parentheses(self):
        for operator in ALL:
            for leaf in LEAVES:
                self.assertNotIn("(", show_condition(with_operands(operator, leaf)))

    def test_chains(self):
        for sign in ("+", "-", "*", "and", "or"):
            left = (sign, (sign, (sign, A, B), C), D)
            self.check(left, f"a {sign} b {sign} c {sign} d")
            self.check((sign, A, (sign, B, (sign, C, D))), f"a {sign} (b {sign} (c {sign} d))")
        self.check(("implies", A, ("implies", B, ("implies", C, D))), "a implies b implies c implies d")
        self.check(("implies", ("implies", ("implies", A, B), C), D), "((a implies b) implies c) implies d")
        self.check(("-", ("+", A, B), ("+", C, D)), "a + b - (c + d)")
        self.check(("=", ("=", A, B), ("=", C, D)), "(a = b) = (c = d)")

    def test_what_is_printed_is_read_as_the_expression(self):
        chance = random.Random(5)
        for _ in range(4000):
            expression = expression_by_chance(chance, 5)
            self.assertEqual(read_condition(show_condition(expression)), expression)

    def test_no_text_has_fewer_tokens(self):
        chance = random.Random(6)
        removed = 0
        for _ in range(300):
            expression = expression_by_chance(chance, 5)
            text = show_condition(expression)
            opened = []
            for _, value, place in [token for token in tokens_of(text) if token[0] == "symbol"]:
                if value == "(":
                    opened.append(place)
                elif value == ")":
                    first = opened.pop()
                    shorter = text[:first] + " " + text[first + 1:place] + " " + text[place + 1:]
                    removed += 1
                    try:
                        self.assertNotEqual(read_condition(shorter), expression)
                    except SlotError:
                        pass
        self.assertGreater(removed, 200)

    def test_the_largest_expressions(self):
        expression = ("true",)
        for _ in range(15):
            expression = ("not", expression)
        self.check(expression, "not " * 15 + "true")
        expression = A
        for _ in range(15):
            expression = ("+", A, expression)
        self.check(expression, "a + (" * 14 + "a + a" + ")" * 14)

    def test_one_expression_after_another(self):
        check_independent(self, show_condition, (("+", A, B),), (("-", A, B),))


if __name__ == "__main__":
    unittest.main()
