"""The printed form of expressions [45]."""

from slotwise.conditions import BINDING


def show_condition(expression):
    """The printed form of the expression."""
    head = expression[0]
    if head == "number":
        return str(expression[1])
    if head == "option":
        return '"' + expression[1] + '"'
    if head == "variable":
        return expression[1]
    if head not in BINDING:
        return head
    own = BINDING[head]
    if head == "minus":
        return "-" + _shown(expression[1], own)
    if head == "not":
        return "not " + _shown(expression[1], own)
    # An operand that binds less closely than its operator is in parentheses. An operand that binds as
    # closely is so too, unless operators like this one are grouped from its side.
    first = own if head in ("or", "and", "+", "-", "*") else own + 1
    second = own if head == "implies" else own + 1
    return _shown(expression[1], first) + " " + head + " " + _shown(expression[2], second)


def _shown(operand, least):
    """The printed operand, in parentheses unless it binds at least so closely."""
    text = show_condition(operand)
    return text if BINDING.get(operand[0], least) >= least else "(" + text + ")"
