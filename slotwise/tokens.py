"""The tokens of texts [5], [40], [44]."""

from slotwise.errors import InvalidOption, NumberTooLong, TooManyTokens, UnexpectedCharacter, WordTooLong

LETTERS = "abcdefghijklmnopqrstuvwxyzABCDEFGHIJKLMNOPQRSTUVWXYZ"
DIGITS = "0123456789"
RESERVED = ("and", "or", "not", "implies", "true", "false")
# A symbol stands behind all longer ones that begin with it.
SYMBOLS = ("!=", "<=", ">=", "(", ")", "+", "-", "*", "=", "<", ">")
MOST_DIGITS = 6
LONGEST_WORD = 20
LONGEST_OPTION = 20
MOST_TOKENS = 200


def tokens_of(text):
    """The tokens of the text in order, triples of the kind, the value and the place."""
    tokens, _ = first_tokens(text, len(text), MOST_DIGITS, SYMBOLS)
    if len(tokens) > MOST_TOKENS:
        raise TooManyTokens(tokens[MOST_TOKENS][2])
    return tokens


def first_tokens(text, many, digits, symbols):
    """The first tokens of the text, at most so many, and the index behind the last one of them.

    Numbers have at most so many digits, and these are the symbols.
    """
    tokens = []
    behind = 0
    at = begin_of(text, 0)
    while at < len(text) and len(tokens) < many:
        kind, value, behind = _token_at(text, at, digits, symbols)
        tokens.append((kind, value, at))
        at = begin_of(text, behind)
    return tuple(tokens), behind


def begin_of(text, at):
    """The index of the first character from there on that is not a space, or the length of the text."""
    return _end_of(text, at, " ")


def _token_at(text, at, digits, symbols):
    """The token that has to begin there: its kind, its value, and the index behind it."""
    mark = text[at]
    if mark in DIGITS:
        return _number_at(text, at, digits)
    if mark in LETTERS:
        return _word_at(text, at)
    if mark == '"':
        return _option_at(text, at)
    for symbol in symbols:
        behind = at + len(symbol)
        if text[at:behind] == symbol:
            return ("symbol", symbol, behind)
    raise UnexpectedCharacter(at)


def _number_at(text, at, digits):
    """The number that begins there."""
    behind = _end_of(text, at, DIGITS)
    if behind - at > digits:
        raise NumberTooLong(at)
    return ("number", int(text[at:behind]), behind)


def _word_at(text, at):
    """The word or qualified word that begins there."""
    behind = _end_of(text, at, LETTERS + DIGITS)
    lengths = [behind - at]
    second = behind + 1
    if second < len(text) and text[behind] == "." and text[second] in LETTERS:
        behind = _end_of(text, second, LETTERS + DIGITS)
        lengths.append(behind - second)
    if max(lengths) > LONGEST_WORD:
        raise WordTooLong(at)
    return ("word", text[at:behind], behind)


def _option_at(text, at):
    """The option that begins there."""
    end = text.find('"', at + 1)
    if end < 0 or not 1 <= end - at - 1 <= LONGEST_OPTION:
        raise InvalidOption(at)
    return ("option", text[at + 1:end], end + 1)


def _end_of(text, at, marks):
    """The index behind the longest row of these characters that begins there."""
    behind = at
    while behind < len(text) and text[behind] in marks:
        behind += 1
    return behind
