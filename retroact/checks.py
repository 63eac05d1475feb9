"""When the expressions and the handlers of a program are let by."""

from retroact.limits import DEEPEST_LIST, DEEPEST_REPEAT, MOST_ARGUMENTS, MOST_PARAMETERS, MOST_STATEMENTS
from retroact.names import are_names, is_name
from retroact.parts import arguments_of, expressions_of, leaves_of, lists_of, name_given, walk
from retroact.values import is_value


def is_expression_let_by(expression, known):
    """Tell if all numbers of an expression are values, and all its names are known."""
    for word, leaf in leaves_of(expression):
        if word == "number" and not is_value(leaf):
            return False
        if word == "name" and leaf not in known:
            return False
    return True


def is_handler_let_by(handler, states, effects, kinds):
    """Tell if a handler of an actor with these states keeps all conditions and limits.

    `effects` has the number of arguments of each effect, `kinds` the number of parameters of each actor.
    """
    _, parameters, body = handler
    if len(parameters) > MOST_PARAMETERS or not are_names(parameters):
        return False
    rows = walk(body)
    if len(rows) > MOST_STATEMENTS:
        return False
    known = parameters + states
    for statement, depth, repeats in rows:
        if not _is_within_limits(statement, depth, repeats) or not _are_ends_let_by(statement, effects, kinds):
            return False
        if not all([is_expression_let_by(expression, known) for expression in expressions_of(statement)]):
            return False
        if not _is_name_free(statement, parameters, states):
            return False
        known.append(name_given(statement))
    return True


def _is_within_limits(statement, depth, repeats):
    if lists_of(statement) and depth >= DEEPEST_LIST:
        return False
    if statement[0] == "repeat" and repeats >= DEEPEST_REPEAT:
        return False
    return len(arguments_of(statement)) <= MOST_ARGUMENTS


def _are_ends_let_by(statement, effects, kinds):
    """Tell if the message, the kind or the effect of a statement may stand there, with its arguments."""
    word = statement[0]
    if word == "send":
        return is_name(statement[2])
    if word == "spawn":
        return kinds.get(statement[1]) == len(statement[2])
    if word == "call":
        return effects.get(statement[1]) == len(statement[2]) and (statement[3] is None or is_name(statement[3]))
    return True


def _is_name_free(statement, parameters, states):
    """Tell if the name behind `set` or `spawn`, if there is one, is a name that may stand there."""
    name = name_given(statement)
    if name is None:
        return True
    if statement[0] == "spawn" and name in states:
        return False
    return is_name(name) and name not in parameters
