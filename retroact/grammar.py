"""How expressions and lists in parentheses are read, by the lines of the grammar."""

COMPARISONS = {"<": "less", "<=": "atmost", "=": "same", ">": "less", ">=": "atmost"}
SUMS = {"+": "plus", "-": "minus"}
PRODUCTS = {"*": "times", "/": "over", "rest": "rest"}


def read_expression(cursor, known):
    """Read an expression over the names that are known."""
    first = _read_and(cursor, known)
    while cursor.skips("or"):
        first = ("or", first, _read_and(cursor, known))
    return first


def read_arguments(cursor, known):
    """Read the expressions in parentheses, if there are any, and return their list."""
    arguments = []
    if cursor.skips("("):
        cursor.begin_open()
        arguments.append(read_expression(cursor, known))
        while cursor.skips(","):
            arguments.append(read_expression(cursor, known))
        _close_parenthesis(cursor)
    return arguments


def read_parameters(cursor):
    """Read the names in parentheses, if there are any, and return their list."""
    parameters = []
    if cursor.skips("("):
        parameters.append(cursor.take_new_name(parameters, "twice"))
        while cursor.skips(","):
            parameters.append(cursor.take_new_name(parameters, "twice"))
        cursor.expect(")")
    return parameters


def read_enclosed(cursor, known):
    """Read an expression in parentheses."""
    cursor.expect("(")
    cursor.begin_open()
    expression = read_expression(cursor, known)
    _close_parenthesis(cursor)
    return expression


def _close_parenthesis(cursor):
    cursor.expect(")")
    cursor.end_open()


def _read_and(cursor, known):
    first = _read_not(cursor, known)
    while cursor.skips("and"):
        first = ("and", first, _read_not(cursor, known))
    return first


def _read_not(cursor, known):
    if not cursor.skips("not"):
        return _read_comparison(cursor, known)
    cursor.begin_open()
    part = _read_not(cursor, known)
    cursor.end_open()
    return ("not", part)


def _read_comparison(cursor, known):
    first = _read_sum(cursor, known)
    sign = cursor.due_text()
    if sign not in COMPARISONS:
        return first
    cursor.expect(sign)
    second = _read_sum(cursor, known)
    if sign in (">", ">="):
        return (COMPARISONS[sign], second, first)
    return (COMPARISONS[sign], first, second)


def _read_sum(cursor, known):
    first = _read_product(cursor, known)
    while cursor.due_text() in SUMS:
        sign = cursor.due_text()
        cursor.expect(sign)
        first = (SUMS[sign], first, _read_product(cursor, known))
    return first


def _read_product(cursor, known):
    first = _read_sign(cursor, known)
    while cursor.due_text() in PRODUCTS:
        sign = cursor.due_text()
        cursor.expect(sign)
        first = (PRODUCTS[sign], first, _read_sign(cursor, known))
    return first


def _read_sign(cursor, known):
    if not cursor.skips("-"):
        return _read_atom(cursor, known)
    if cursor.due_kind() == "number":
        return ("number", -cursor.take_number())
    cursor.begin_open()
    part = _read_sign(cursor, known)
    cursor.end_open()
    return ("negative", part)


def _read_atom(cursor, known):
    if cursor.due_kind() == "number":
        return ("number", cursor.take_number())
    if cursor.due_text() == "(":
        return read_enclosed(cursor, known)
    return ("name", cursor.take_known_name(known))
