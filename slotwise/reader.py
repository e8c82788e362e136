"""Reading texts of conditions [41] to [44]."""

from slotwise.conditions import BINDING, measure
from slotwise.errors import ConditionTooLarge, NestedTooDeeply, UnexpectedEnd, UnexpectedToken
from slotwise.tokens import RESERVED, tokens_of

MOST_PLACES = 60
MOST_DEPTH = 16
MOST_LEVELS = 30

# What stands before an operand, and the operator that it is; a parenthesis only waits for the other one.
PREFIXES = {"(": "(", "-": "minus", "not": "not"}
LEVEL_BEGINNINGS = ("(", "minus", "not", "implies")
COMPARISONS = ("=", "!=", "<", "<=", ">", ">=")
JOINING = ("implies", "or", "and", "=", "!=", "<", "<=", ">", ">=", "+", "-", "*")


def read_condition(text):
    """The expression that the text denotes."""
    # Operators and opening parentheses wait until their right operands are complete. Whatever waits
    # when a token comes can be completed, so the first token that does not fit is the unexpected one.
    operands = []
    waiting = []
    complete = False
    for token in tokens_of(text):
        if complete:
            complete = _take_behind(operands, waiting, token)
        else:
            complete = _take_before(operands, waiting, token)
    if not complete or "(" in waiting:
        raise UnexpectedEnd(len(text))
    _join(operands, waiting, BINDING["implies"])
    places, depth = measure(operands[0])
    if places > MOST_PLACES or depth > MOST_DEPTH:
        raise ConditionTooLarge(places, depth)
    return operands[0]


def _take_before(operands, waiting, token):
    """Take a token where an operand has to begin, and tell whether an operand is complete behind it."""
    kind, value, place = token
    if kind == "number" or kind == "option":
        operands.append((kind, value))
        return True
    if value == "true" or value == "false":
        operands.append((value,))
        return True
    if kind == "word" and value not in RESERVED:
        operands.append(("variable", value))
        return True
    if value not in PREFIXES:
        raise UnexpectedToken(place)
    if value == "not" and waiting and _binding(waiting[-1]) > BINDING["not"]:
        raise UnexpectedToken(place)
    _begin(waiting, PREFIXES[value], place)
    return False


def _take_behind(operands, waiting, token):
    """Take a token behind a complete operand, and tell whether an operand is complete behind it."""
    kind, value, place = token
    if kind == "symbol" and value == ")" and "(" in waiting:
        _join(operands, waiting, BINDING["implies"])
        waiting.pop()
        return True
    if kind == "number" or kind == "option" or value not in JOINING:
        raise UnexpectedToken(place)
    # What binds closer than the operator is complete. So is what binds as closely, except for an
    # implication, which goes into the one before, and for a comparison, which has no place beside one.
    _join(operands, waiting, BINDING[value] + (1 if value == "implies" or value in COMPARISONS else 0))
    if value in COMPARISONS and waiting and waiting[-1] in COMPARISONS:
        raise UnexpectedToken(place)
    _begin(waiting, value, place)
    return False


def _begin(waiting, operator, place):
    """Let an operator or a parenthesis wait for what stands behind it."""
    if operator in LEVEL_BEGINNINGS:
        levels = [other for other in waiting if other in LEVEL_BEGINNINGS]
        if len(levels) >= MOST_LEVELS:
            raise NestedTooDeeply(place)
    waiting.append(operator)


def _join(operands, waiting, least):
    """Join the last operands by the last waiting operators that bind at least so closely."""
    while waiting and _binding(waiting[-1]) >= least:
        operator = waiting.pop()
        last = operands.pop()
        if operator == "minus" or operator == "not":
            operands.append((operator, last))
        else:
            operands.append((operator, operands.pop(), last))


def _binding(operator):
    """How closely a waiting operator binds; a parenthesis is never complete before the other one."""
    return BINDING.get(operator, 0)
