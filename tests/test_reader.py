"""Tests of slotwise/reader.py: points 41 to 44, with 21."""

import random
import unittest

from slotwise import errors
from slotwise.conditions import measure
from slotwise.reader import read_condition
from slotwise.tokens import RESERVED, tokens_of
from tests.helpers import check_independent, is_plain, variable

A, B, C, D = (variable(name) for name in "abcd")
COMPARISONS = ("=", "!=", "<", "<=", ">", ">=")

# The grammar of point 41, with own names for what may be repeated or left out.
GRAMMAR = {
    "implication": (("disjunction",), ("disjunction", "'implies'", "implication")),
    "disjunction": (("conjunction",), ("disjunction", "'or'", "conjunction")),
    "conjunction": (("negation",), ("conjunction", "'and'", "negation")),
    "negation": (("'not'", "negation"), ("comparison",)),
    "comparison": (("sum",),) + tuple(("sum", f"'{sign}'", "sum") for sign in COMPARISONS),
    "sum": (("product",), ("sum", "'+'", "product"), ("sum", "'-'", "product")),
    "product": (("factor",), ("product", "'*'", "factor")),
    "factor": (("'-'", "factor"), ("'leaf'",), ("'('", "implication", "')'")),
}


def words_of(text):
    """The tokens of the text as the grammar knows them."""
    return [
        "'leaf'" if kind in ("number", "option") or value not in RESERVED + ("(", ")", "+", "-", "*") + COMPARISONS
        or value in ("true", "false") else f"'{value}'"
        for kind, value, _ in tokens_of(text)
    ]


def how_far(words):
    """How many of the words begin an implication, and whether all of them form one, by the grammar alone."""
    rows = [{("start", ("implication",), 0, 0)}]
    for number in range(len(words) + 1):
        waiting = list(rows[number])
        further = set()
        while waiting:
            name, parts, dot, origin = waiting.pop()
            found = []
            if dot == len(parts):
                found = [(n, p, d + 1, o) for n, p, d, o in rows[origin] if d < len(p) and p[d] == name]
            elif parts[dot] in GRAMMAR:
                found = [(parts[dot], rule, 0, number) for rule in GRAMMAR[parts[dot]]]
            elif number < len(words) and parts[dot] == words[number]:
                further.add((name, parts, dot + 1, origin))
            for new in found:
                if new not in rows[number]:
                    rows[number].add(new)
                    waiting.append(new)
        if number < len(words):
            if not further:
                return number, False
            rows.append(further)
    return len(words), ("start", ("implication",), 1, 0) in rows[-1]


class TestCase(unittest.TestCase):
    def check(self, text, expression):
        """Check what the text is read as."""
        found = read_condition(text)
        self.assertEqual(found, expression)
        self.assertTrue(is_plain(found))

    def check_error(self, text, error, **attributes):
        """Check that exactly this error is raised, with these attributes."""
        with self.assertRaises(errors.SlotError) as caught:
            read_condition(text)
        self.assertEqual((type(caught.exception), vars(caught.exception)), (error, attributes), text)


class TestGrammar(TestCase):
    def test_examples(self):
        self.check("-a * 2 < b", ("<", ("*", ("minus", A), ("number", 2)), B))
        self.check_error("a < b < c", errors.UnexpectedToken, place=6)
        self.check_error("(a ", errors.UnexpectedEnd, place=3)
        self.check("a - b + c", ("+", ("-", A, B), C))
        self.check("a implies b implies c", ("implies", A, ("implies", B, C)))
        self.check('1 and "red"', ("and", ("number", 1), ("option", "red")))

    def test_expressions_without_operands(self):
        for text, expression in (
            ("0", ("number", 0)), ("007", ("number", 7)), ('"and"', ("option", "and")), ('" "', ("option", " ")),
            ("true", ("true",)), ("false", ("false",)), ("a", A), ("plug", variable("plug")),
            ("component", variable("component")), ("not.true", variable("not.true")), ("True", variable("True")),
            ("minus", variable("minus")), ("number", variable("number")), ("a.implies", variable("a.implies")),
            ("  a  ", A), ("(a)", A), ("((( a )))", A),
        ):
            self.check(text, expression)

    def test_operands_grouped_from_the_left(self):
        for first in ("+", "-"):
            for second in ("+", "-"):
                self.check(f"a {first} b {second} c", (second, (first, A, B), C))
        for operator in ("or", "and", "*"):
            self.check(f"a {operator} b {operator} c {operator} d",
                       (operator, (operator, (operator, A, B), C), D))
            self.check(f"a {operator} (b {operator} c)", (operator, A, (operator, B, C)))

    def test_implications_grouped_from_the_right(self):
        self.check("a implies b implies c implies d",
                   ("implies", A, ("implies", B, ("implies", C, D))))
        self.check("(a implies b) implies c", ("implies", ("implies", A, B), C))

    def test_which_operator_binds_more_closely(self):
        rows = (("implies",), ("or",), ("and",), COMPARISONS, ("+", "-"), ("*",))
        for low in range(len(rows)):
            for high in range(low + 1, len(rows)):
                for one in rows[low]:
                    for other in rows[high]:
                        self.check(f"a {one} b {other} c", (one, A, (other, B, C)))
                        self.check(f"a {other} b {one} c", (one, (other, A, B), C))
                        self.check(f"(a {one} b) {other} c", (other, (one, A, B), C))
                        self.check(f"a {other} (b {one} c)", (other, A, (one, B, C)))

    def test_comparisons(self):
        for sign in COMPARISONS:
            self.check(f"a{sign}b", (sign, A, B))
            self.check(f"a + 1 {sign} -b * c", (sign, ("+", A, ("number", 1)), ("*", ("minus", B), C)))
            for other in COMPARISONS:
                self.check_error(f"a {sign} b {other} c", errors.UnexpectedToken, place=5 + len(sign))
                self.check_error(f"not a {sign} b + 1 {other} c", errors.UnexpectedToken, place=13 + len(sign))
                self.check(f"(a {sign} b) {other} c", (other, (sign, A, B), C))
                self.check(f"a {sign} b and c {other} d", ("and", (sign, A, B), (other, C, D)))

    def test_not(self):
        self.check("not a", ("not", A))
        self.check("not not a", ("not", ("not", A)))
        self.check("not a = b", ("not", ("=", A, B)))
        self.check("not a and b", ("and", ("not", A), B))
        self.check("a and not b or c", ("or", ("and", A, ("not", B)), C))
        self.check("a implies not b implies c", ("implies", A, ("implies", ("not", B), C)))
        self.check("(not a) + b", ("+", ("not", A), B))
        self.check("not(a)", ("not", A))

    def test_minus(self):
        self.check("-1", ("minus", ("number", 1)))
        self.check("- - a", ("minus", ("minus", A)))
        self.check("a--b", ("-", A, ("minus", B)))
        self.check("a - -b", ("-", A, ("minus", B)))
        self.check("-a - -b", ("-", ("minus", A), ("minus", B)))
        self.check("-a * -b", ("*", ("minus", A), ("minus", B)))
        self.check("-(a * b)", ("minus", ("*", A, B)))
        self.check("not -a", ("not", ("minus", A)))
        self.check("a * b - -(c)", ("-", ("*", A, B), ("minus", C)))

    def test_operands_of_wrong_kinds(self):
        self.check('"a" + true', ("+", ("option", "a"), ("true",)))
        self.check("not 1 = true", ("not", ("=", ("number", 1), ("true",))))
        self.check("-(not a)", ("minus", ("not", A)))

    def test_spaces(self):
        self.check("(a+b)*-c<=d", ("<=", ("*", ("+", A, B), ("minus", C)), D))
        self.check("  ( a  + b ) *   - c   <=d ", ("<=", ("*", ("+", A, B), ("minus", C)), D))
        self.check('1and"x"or 2', ("or", ("and", ("number", 1), ("option", "x")), ("number", 2)))


class TestErrors(TestCase):
    def test_errors_of_tokens(self):
        self.check_error("a.b.c", errors.UnexpectedCharacter, place=3)
        self.check_error(") 1234567", errors.NumberTooLong, place=2)
        self.check_error("a b " + "c" * 21, errors.WordTooLong, place=4)
        self.check_error('a b ""', errors.InvalidOption, place=4)
        self.check_error(")" * 201, errors.TooManyTokens, place=200)
        self.check_error("(" * 201, errors.TooManyTokens, place=200)
        self.check_error(")" * 200, errors.UnexpectedToken, place=0)

    def test_unexpected_tokens(self):
        for text, place in (
            (")", 0), ("and", 0), ("= 1", 0), ("* a", 0), ("+1", 0), ("implies", 0), ("a b", 2), ("a 1", 2), ('a "x"', 2),
            ("a true", 2), ("a not b", 2), ("a (", 2), ("a )", 2), ("(a))", 3), ("()", 1), ("(a b)", 3), ("a + * b", 4),
            ("a and or b", 6), ("a = not b", 4), ("a + not b", 4), ("- not a", 2), ("a * not b", 4), ("not and", 4),
            ("a + )", 4), ("(a + )", 5), ("a = = b", 4), ("a < b and c < d < e", 16), ("1 2", 2), ("a minus b", 2),
            ("a = -not b", 5), ("(a = b = c)", 7), ("not a = b = c", 10), ("a implies implies", 10), ("a - ) b", 4),
        ):
            self.check_error(text, errors.UnexpectedToken, place=place)

    def test_unexpected_ends(self):
        for text in (
            "", " ", "   ", "(", "((", "(a", "(a + b", "not", "not not", "-", "a +", "a and", "a implies", "a =", "a *",
            "a < b and", "((a)", "a and (b or c", "a - -", "(a) or not  ", "a implies (",
        ):
            self.check_error(text, errors.UnexpectedEnd, place=len(text))

    def test_a_text_that_ends_too_early_at_each_place(self):
        text = 'not (a + -b * 2 <= c) and (d = "x" or true) implies (a implies - b)'
        tokens = tokens_of(text)
        self.assertIsNotNone(read_condition(text))
        for _, _, place in tokens:
            shorter = text[:place]
            number, complete = how_far(words_of(shorter))
            self.assertEqual(number, len(words_of(shorter)))
            if complete:
                read_condition(shorter)
            else:
                self.check_error(shorter, errors.UnexpectedEnd, place=len(shorter))

    def test_a_token_too_many(self):
        for text in ("a", "(a)", "a = 1", "not a", "-a", "a implies b"):
            for more in ("b", "1", '"x"', "true", "not", "(", ")"):
                self.check_error(text + " " + more, errors.UnexpectedToken, place=len(text) + 1)


class TestLevels(TestCase):
    def test_31_levels_of_each_kind(self):
        for opening, shift in (("(", 0), ("not ", 0), ("-", 0), ("a implies ", 2)):
            self.check_error(opening * 31 + "a", errors.NestedTooDeeply, place=len(opening) * 30 + shift)
            self.check_error(opening * 30, errors.UnexpectedEnd, place=len(opening) * 30)

    def test_30_levels_of_each_kind(self):
        self.check("(" * 30 + "a" + ")" * 30, A)
        self.check_error("not " * 30 + "a", errors.ConditionTooLarge, places=31, depth=31)
        self.check_error("-" * 30 + "a", errors.ConditionTooLarge, places=31, depth=31)
        self.check_error("a implies " * 30 + "a", errors.ConditionTooLarge, places=61, depth=31)

    def test_mixed_levels(self):
        opening = "not -(" * 10
        self.check_error(opening + "- a" + ")" * 10, errors.NestedTooDeeply, place=len(opening))
        self.check_error("(" * 28 + "a implies not (b" + ")" * 29, errors.NestedTooDeeply, place=28 + 14)
        self.check("(" * 28 + "a implies not b" + ")" * 28, ("implies", A, ("not", B)))

    def test_levels_that_have_ended(self):
        nested = "(" * 29
        self.check(nested + "-a * -b" + ")" * 29, ("*", ("minus", A), ("minus", B)))
        self.check(nested + "not a and not b" + ")" * 29, ("and", ("not", A), ("not", B)))
        self.check(nested + "-a < -b or not c implies d" + ")" * 29,
                   ("implies", ("or", ("<", ("minus", A), ("minus", B)), ("not", C)), D))
        self.check(nested + "(a) + (b)" + ")" * 29, ("+", A, B))
        self.check("(" * 30 + "a" + ")" * 30 + " and " + "(" * 30 + "b" + ")" * 30, ("and", A, B))

    def test_the_operand_of_not_goes_on(self):
        self.check_error("(" * 29 + "not a = -b", errors.NestedTooDeeply, place=29 + 8)
        self.check("(" * 28 + "not a = -b" + ")" * 28, ("not", ("=", A, ("minus", B))))
        self.check_error("(" * 29 + "a implies b implies c", errors.NestedTooDeeply, place=29 + 12)

    def test_parentheses_in_an_implication_on_the_left(self):
        self.check("(" * 30 + "a" + ")" * 30 + " implies b", ("implies", A, B))
        self.check_error("a implies " + "(" * 30 + "b" + ")" * 30, errors.NestedTooDeeply, place=10 + 29)

    def test_the_first_error_from_left_to_right(self):
        self.check_error("(" * 31 + ")", errors.NestedTooDeeply, place=30)
        self.check_error("(" * 30 + ")" + "(" * 5, errors.UnexpectedToken, place=30)
        self.check_error("(" * 31, errors.NestedTooDeeply, place=30)
        self.check_error("(" * 30, errors.UnexpectedEnd, place=30)
        self.check_error("(" * 30 + "a (", errors.UnexpectedToken, place=32)
        self.check_error("(" * 30 + "a + not b", errors.UnexpectedToken, place=34)


class TestSizes(TestCase):
    def test_60_and_61_places(self):
        base = " and ".join([f"(a{at} + 1 = b{at} * 2 and true)" for at in range(5)])
        self.assertEqual(measure(read_condition(base)), (49, 8))
        fits = base + " and (a + 1 = b * 2 or c)"
        self.assertEqual(measure(read_condition(fits)), (59, 9))
        self.assertEqual(measure(read_condition("not (" + fits + ")")), (60, 10))
        self.check_error("not not (" + fits + ")", errors.ConditionTooLarge, places=61, depth=11)

    def test_depths_of_16_and_17(self):
        self.assertEqual(measure(read_condition("not " * 15 + "a")), (16, 16))
        self.check_error("not " * 16 + "a", errors.ConditionTooLarge, places=17, depth=17)
        self.assertEqual(measure(read_condition(" + ".join(["a"] * 16))), (31, 16))
        self.check_error(" + ".join(["a"] * 17), errors.ConditionTooLarge, places=33, depth=17)
        self.check(" ((((((((((((((((( a )))))))))))))))))", A)

    def test_long_chains(self):
        self.check_error(" + ".join(["1"] * 100), errors.ConditionTooLarge, places=199, depth=100)
        self.check_error("1" + " implies 1" * 30, errors.ConditionTooLarge, places=61, depth=31)
        self.check_error(" + ".join(["1"] * 100) + " )", errors.UnexpectedToken, place=398)

    def test_the_size_comes_last(self):
        self.check_error(" + ".join(["1"] * 40) + " +", errors.UnexpectedEnd, place=159)


class TestByChance(TestCase):
    SIGNS = ("a", "1", '"x"', "true", "(", ")", "(", ")", "not", "-", "+", "*", "=", "<", "and", "or", "implies")

    def test_against_the_grammar(self):
        chance = random.Random(3)
        seen = {"read": 0, "UnexpectedToken": 0, "UnexpectedEnd": 0}
        for _ in range(6000):
            words = []
            for _ in range(chance.randint(1, 14)):
                # Mostly words that go on with what is there, so that long texts are read, too.
                sign = chance.choice(self.SIGNS)
                if chance.random() < 0.9 and how_far(words_of(" ".join(words + [sign])))[0] <= len(words):
                    continue
                words.append(sign)
            text = " ".join(words)
            number, complete = how_far(words_of(text))
            places = [place for _, _, place in tokens_of(text)] + [len(text)]
            if complete:
                read_condition(text)
                seen["read"] += 1
            else:
                name = "UnexpectedEnd" if number == len(words) else "UnexpectedToken"
                self.check_error(text, getattr(errors, name), place=places[number])
                seen[name] += 1
        self.assertGreater(min(seen.values()), 300)


class TestArgumentsAlone(unittest.TestCase):
    def test_one_text_after_another(self):
        check_independent(self, read_condition, ("a - b",), ("a - -b",))
        with self.assertRaises(errors.UnexpectedEnd):
            read_condition("(a")
        self.assertEqual(read_condition("a"), A)


if __name__ == "__main__":
    unittest.main()
