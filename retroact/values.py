"""Values, and how expressions are evaluated."""

from retroact.errors import Fault

LEAST_VALUE = -1000000000
GREATEST_VALUE = 1000000000


def is_value(number):
    """Tell if the argument, which may be of any kind, is a value."""
    if not isinstance(number, int) or isinstance(number, bool):
        return False
    return LEAST_VALUE <= number <= GREATEST_VALUE


def evaluate(expression, names):
    """Return the value of an expression, or raise Fault."""
    # The first parts are walked down in a loop: only second parts need a call of their own,
    # so that a long row of operators, which groups to the left, is no deep recursion.
    operations = []
    part = expression
    while part[0] not in ("number", "name"):
        operations.append(part)
        part = part[1]
    number = _value_of_leaf(part, names)
    for operation in reversed(operations):
        word = operation[0]
        if word == "negative":
            number = -number
        elif word == "not":
            number = int(number == 0)
        elif word == "and" and number == 0:
            number = 0
        elif word == "or" and number != 0:
            number = 1
        else:
            number = _joined(word, number, evaluate(operation[2], names))
    return number


def evaluate_all(expressions, names):
    """Return the tuple of the values of a list of expressions, or raise Fault."""
    return tuple([evaluate(expression, names) for expression in expressions])


def _value_of_leaf(leaf, names):
    if leaf[0] == "name":
        return names[leaf[1]]
    return _in_range(leaf[1])


def _in_range(number):
    if not is_value(number):
        raise Fault("range")
    return number


def _joined(word, first, second):
    if word in ("over", "rest"):
        return _divided(word, first, second)
    if word == "plus":
        return _in_range(first + second)
    if word == "minus":
        return _in_range(first - second)
    if word == "times":
        return _in_range(first * second)
    if word == "less":
        return int(first < second)
    if word == "atmost":
        return int(first <= second)
    if word == "same":
        return int(first == second)
    # `and` and `or` come here only if the second part decides.
    return int(second != 0)


def _divided(word, first, second):
    if second == 0:
        raise Fault("zero")
    quotient = first // second
    if word == "over":
        return _in_range(quotient)
    return first - second * quotient
