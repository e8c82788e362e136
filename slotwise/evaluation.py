"""Values of expressions [23]."""

from slotwise.conditions import check_condition, kind_of


def value_of(expression, values):
    """The value of the expression; raises the error for its first fault."""
    kind_of(expression, _kinds(values))
    return evaluated(expression, dict(values))


def holds(condition, values):
    """Whether the condition is true; raises the error for its first fault, or NotCondition if it is none."""
    check_condition(condition, _kinds(values))
    return evaluated(condition, dict(values))


def evaluated(expression, known):
    """The value of an expression without faults, by the dict of the values of its variables."""
    head = expression[0]
    if head == "number" or head == "option":
        return expression[1]
    if head == "variable":
        return known[expression[1]]
    if head == "true" or head == "false":
        return head == "true"
    values = [evaluated(operand, known) for operand in expression[1:]]
    if head == "minus":
        return -values[0]
    if head == "not":
        return not values[0]
    return _joined(head, values[0], values[1])


def _kinds(values):
    """The pairs of the names of the variables and of the kinds of their values."""
    return tuple([(name, "option" if isinstance(value, str) else "number") for name, value in values])


def _joined(operator, first, second):
    """The value of an operator with two operands."""
    match operator:
        case "+":
            return first + second
        case "-":
            return first - second
        case "*":
            return first * second
        case "=":
            return first == second
        case "!=":
            return first != second
        case "<":
            return first < second
        case "<=":
            return first <= second
        case ">":
            return first > second
        case ">=":
            return first >= second
        case "and":
            return first and second
        case "or":
            return first or second
        case _:
            return second or not first
