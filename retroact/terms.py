"""The terms of atoms and items: constants and variables."""


def is_variable(term):
    """Tell if a term is a variable; other tuples are paths, which consist of integers."""
    return isinstance(term, tuple) and len(term) == 2 and term[0] == "variable"


def variables_in(terms):
    """Return the ascending list of the names of the variables among terms."""
    return sorted(set([term[1] for term in terms if is_variable(term)]))


def terms_of(item):
    """Return the tuple of the terms of an item."""
    if item[0] in ("holds", "fails"):
        return item[1][1]
    return item[1:]


def variables_of(rule):
    """Return the ascending list of the names of all variables of a rule."""
    head, items = rule
    terms = list(head[1])
    for item in items:
        terms.extend(terms_of(item))
    return variables_in(terms)


def atoms_of(items, words):
    """Return the list of the atoms of the items that begin with one of the words."""
    return [item[1] for item in items if item[0] in words]


def extended(terms, fact, constants):
    """Return the constants with those that the fact gives to the variables of the terms, or None if it does not fit.

    There are as many terms as the fact has constants.
    """
    more = dict(constants)
    for term, constant in zip(terms, fact[1]):
        worth = more.setdefault(term[1], constant) if is_variable(term) else term
        if worth != constant:
            return None
    return more


def worth_of(term, constants):
    """Return the constant that a term stands for."""
    return constants[term[1]] if is_variable(term) else term


def is_true(item, constants):
    """Tell if a comparison is true."""
    word = item[0]
    first, second = [worth_of(term, constants) for term in item[1:]]
    if word == "same":
        return first == second
    if word == "differs":
        return first != second
    if not isinstance(first, int) or not isinstance(second, int):
        return False
    return first < second if word == "less" else first <= second
