"""Tests of slotwise/tokens.py: points 5, 40 and 44."""

import random
import re
import unittest

from slotwise import errors
from slotwise.tokens import tokens_of
from tests.helpers import check_independent, is_plain

SYMBOLS = ("(", ")", "+", "-", "*", "=", "!=", "<", "<=", ">", ">=")
TOKEN = re.compile(
    r'(?P<number>[0-9]{1,6}(?![0-9]))|(?P<word>[a-zA-Z][a-zA-Z0-9]{0,19}(?![a-zA-Z0-9])'
    r'(\.[a-zA-Z][a-zA-Z0-9]{0,19}(?![a-zA-Z0-9])|(?!\.[a-zA-Z])))|"(?P<option>[^"]{1,20})"|(?P<symbol>!=|[<>]=?|[()+*=-])'
)


class TestCase(unittest.TestCase):
    def check_error(self, text, error, place):
        """Check that exactly this error is raised, with this place."""
        with self.assertRaises(errors.SlotError) as caught:
            tokens_of(text)
        self.assertEqual((type(caught.exception), vars(caught.exception)), (error, {"place": place}), text)


class TestTokens(TestCase):
    def test_examples(self):
        self.assertEqual(tokens_of("a1>=07"), (("word", "a1", 0), ("symbol", ">=", 2), ("number", 7, 4)))
        self.assertEqual(tokens_of('not.a "a b"'), (("word", "not.a", 0), ("option", "a b", 6)))
        self.assertEqual(tokens_of(""), ())
        self.check_error("a.b.c", errors.UnexpectedCharacter, 3)

    def test_spaces_alone(self):
        for many in (1, 2, 2000):
            self.assertEqual(tokens_of(" " * many), ())

    def test_words(self):
        for word in ("a", "Z9", "a" * 20, "B2" * 10, "and", "implies", "true", "plug", "component"):
            self.assertEqual(tokens_of(word), (("word", word, 0),))
            self.assertEqual(tokens_of(f"  {word} ("), (("word", word, 2), ("symbol", "(", len(word) + 3)))
        self.assertEqual(tokens_of("And aNd"), (("word", "And", 0), ("word", "aNd", 4)))

    def test_qualified_words(self):
        for word in ("a.b", "plug.size", "not.and", "a1.b2", "a" * 20 + "." + "b" * 20):
            self.assertEqual(tokens_of(word + "=1"), (("word", word, 0), ("symbol", "=", len(word)), ("number", 1, len(word) + 1)))

    def test_numbers(self):
        for text, number in (("0", 0), ("000000", 0), ("000007", 7), ("999999", 999999), ("123456", 123456)):
            tokens = tokens_of(text)
            self.assertEqual(tokens, (("number", number, 0),))
            self.assertTrue(is_plain(tokens))
        self.assertEqual(tokens_of("1a 2"), (("number", 1, 0), ("word", "a", 1), ("number", 2, 3)))
        self.assertEqual(tokens_of("123456 7"), (("number", 123456, 0), ("number", 7, 7)))
        self.assertEqual(tokens_of("12abc3"), (("number", 12, 0), ("word", "abc3", 2)))

    def test_options(self):
        for option in ("a", " ", "a" * 20, "a.b", "!=", "1'", "not", "~", "(", "  x "):
            self.assertEqual(tokens_of(f'"{option}"'), (("option", option, 0),))
        self.assertEqual(tokens_of('"a""b" "c"'), (("option", "a", 0), ("option", "b", 3), ("option", "c", 7)))
        self.assertEqual(tokens_of('x"y"z'), (("word", "x", 0), ("option", "y", 1), ("word", "z", 4)))

    def test_each_symbol(self):
        for symbol in SYMBOLS:
            self.assertEqual(tokens_of(symbol), (("symbol", symbol, 0),))
            self.assertEqual(tokens_of(f"a{symbol} 1"), (("word", "a", 0), ("symbol", symbol, 1), ("number", 1, len(symbol) + 2)))

    def test_two_symbols_without_a_space(self):
        joined = {("<", "="), (">", "=")}
        for first in SYMBOLS:
            for second in SYMBOLS:
                tokens = tokens_of(first + second)
                if (first, second[:1]) in joined:
                    self.assertEqual(tokens[0], ("symbol", first + "=", 0))
                else:
                    self.assertEqual(tokens, (("symbol", first, 0), ("symbol", second, len(first))))
        self.assertEqual(tokens_of("<=="), (("symbol", "<=", 0), ("symbol", "=", 2)))
        self.assertEqual(tokens_of("==="), tuple(("symbol", "=", at) for at in range(3)))
        self.assertEqual(tokens_of("<>"), (("symbol", "<", 0), ("symbol", ">", 1)))

    def test_200_and_201_tokens(self):
        self.assertEqual(len(tokens_of("(" * 200)), 200)
        self.assertEqual(len(tokens_of(" a" * 200 + "  ")), 200)
        self.check_error("(" * 201, errors.TooManyTokens, 200)
        self.check_error("(" * 250, errors.TooManyTokens, 200)
        self.check_error(" a" * 200 + '   "b" c', errors.TooManyTokens, 403)


class TestErrors(TestCase):
    def test_characters_that_begin_no_token(self):
        for mark in "#$&'/,:;?@[]\\^_`{|}~!.":
            self.check_error(mark, errors.UnexpectedCharacter, 0)
            self.check_error("a " + mark + " b", errors.UnexpectedCharacter, 2)
            self.assertEqual(tokens_of(f'"{mark}"'), (("option", mark, 0),))

    def test_full_stops(self):
        for text, place in (
            (".", 0), ("a.", 1), ("a. b", 1), ("a .b", 2), ("a.1", 1), ("a..b", 1), ("1.a", 1), (".a", 0), ("a.b.", 3),
            ("a.b .c", 4), ('"a".b', 3), ("(.a", 1), ("a.(", 1),
        ):
            self.check_error(text, errors.UnexpectedCharacter, place)

    def test_exclamation_marks(self):
        for text, place in (("!", 0), ("a ! = b", 2), ("!!=", 0), ("!a", 0), ("a !", 2)):
            self.check_error(text, errors.UnexpectedCharacter, place)

    def test_numbers_that_are_too_long(self):
        for text, place in (("1234567", 0), ("0000000", 0), (" 1 1234567", 3), ("1234567a", 0), ("a+1234567890", 2)):
            self.check_error(text, errors.NumberTooLong, place)
        self.assertEqual(tokens_of("a1234567"), (("word", "a1234567", 0),))

    def test_words_that_are_too_long(self):
        long = "a" * 21
        for text, place in (
            (long, 0), (" 1" + long, 2), ("a.b " + long, 4), (long + ".b", 0), ("b." + long, 0), (" x.a" + "1" * 20, 1),
            ("a" * 20 + "1", 0), (long + "." + long, 0),
        ):
            self.check_error(text, errors.WordTooLong, place)

    def test_options_that_are_invalid(self):
        for text, place in (
            ('"', 0), ('"a', 0), ('a "', 2), ('""', 0), ('"" "a"', 0), ('"' + "a" * 21 + '"', 0), ('"a" "b', 4),
            ('"a"b"', 4), ('"' + "a" * 21, 0), ('"' + "a" * 30 + '" "b"', 0),
        ):
            self.check_error(text, errors.InvalidOption, place)

    def test_the_first_one_from_left_to_right(self):
        self.check_error('# 1234567', errors.UnexpectedCharacter, 0)
        self.check_error('1234567 #', errors.NumberTooLong, 0)
        self.check_error('a "" 1234567', errors.InvalidOption, 2)
        self.check_error("a" * 21 + ' "', errors.WordTooLong, 0)
        self.check_error('a.b.c 1234567', errors.UnexpectedCharacter, 3)

    def test_too_many_tokens_comes_last(self):
        self.check_error("(" * 300 + "#", errors.UnexpectedCharacter, 300)
        self.check_error("(" * 201 + "1234567", errors.NumberTooLong, 201)


class TestByChance(TestCase):
    def test_against_a_pattern(self):
        chance = random.Random(1)
        pieces = ("a", "b1", ".", "1", "23456", "007", " ", " ", '"', "x y", "<", ">", "=", "!=", "!", "(", "-", "+", "and",
                  "abcdefghij", "*", ")", '"q"')
        read = 0
        for _ in range(8000):
            text = "".join(chance.choice(pieces) for _ in range(chance.randint(0, 8)))
            expected, place = self.by_pattern(text)
            if place is None:
                self.assertEqual(tokens_of(text), expected)
                read += 1
            else:
                with self.assertRaises(errors.TextError) as caught:
                    tokens_of(text)
                self.assertEqual(caught.exception.place, place, text)
        self.assertGreater(read, 1000)

    def by_pattern(self, text):
        """The tokens by a pattern, and the place at which none begins or None."""
        found = []
        at = 0
        while text[at:].strip():
            at += len(text[at:]) - len(text[at:].lstrip())
            match = TOKEN.match(text, at)
            if match is None:
                return tuple(found), at
            kind = match.lastgroup if match["word"] is None else "word"
            value = match[kind]
            found.append((kind, int(value) if kind == "number" else value, at))
            at = match.end()
        return tuple(found), None


class TestArgumentsAlone(unittest.TestCase):
    def test_one_text_after_another(self):
        check_independent(self, tokens_of, ("a b",), ("b a",))


if __name__ == "__main__":
    unittest.main()
