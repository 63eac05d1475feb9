"""The forms of the lines that are statements."""

from retroact.grammar import read_arguments, read_enclosed, read_expression


def read_statement(draft, cursor, word):
    """Read the line of a statement that begins with the word."""
    read = READERS[word]
    statement = read(draft, cursor)
    cursor.close()
    if word == "call" and draft.effects[statement[1]] != len(statement[2]):
        cursor.fail("count", cursor.column_of(1))
    cursor.check_limit(draft.scope.holds(statement))
    if word == "spawn":
        draft.spawns.append((statement[1], len(statement[2]), cursor.number, cursor.column_of(1)))
    draft.scope.take_in(statement)


def _read_set(draft, cursor):
    name = cursor.take_new_name(draft.scope.parameters, "taken")
    cursor.expect("=")
    return ("set", name, read_expression(cursor, draft.scope.known))


def _read_if(draft, cursor):
    return ("if", read_expression(cursor, draft.scope.known), [], [])


def _read_repeat(draft, cursor):
    return ("repeat", read_expression(cursor, draft.scope.known), [])


def _read_send(draft, cursor):
    target = _read_target(draft, cursor)
    message = cursor.take_any_name()
    return ("send", target, message, read_arguments(cursor, draft.scope.known))


def _read_target(draft, cursor):
    if cursor.skips("parent"):
        return ("parent",)
    if cursor.skips("self"):
        return ("self",)
    cursor.expect("child")
    return ("child", read_enclosed(cursor, draft.scope.known))


def _read_spawn(draft, cursor):
    kind = cursor.take_any_name()
    arguments = read_arguments(cursor, draft.scope.known)
    cursor.expect("as")
    name = cursor.take_new_name(draft.scope.parameters + draft.scope.states, "taken")
    return ("spawn", kind, arguments, name)


def _read_call(draft, cursor):
    effect = cursor.take_known_name(draft.effects)
    arguments = read_arguments(cursor, draft.scope.known)
    message = cursor.take_any_name() if cursor.skips("then") else None
    return ("call", effect, arguments, message)


def _read_stop(draft, cursor):
    return ("stop",)


def _read_fail(draft, cursor):
    return ("fail",)


READERS = {
    "set": _read_set,
    "if": _read_if,
    "repeat": _read_repeat,
    "send": _read_send,
    "spawn": _read_spawn,
    "call": _read_call,
    "stop": _read_stop,
    "fail": _read_fail,
}
