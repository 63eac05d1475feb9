"""Patches: what becomes of the kinds, messages and effects of a program in another one."""

from retroact.checks import is_expression_let_by
from retroact.errors import ConversionFault, Fault, InvalidPatch
from retroact.kinds import actor_of, handler_of
from retroact.machine import Being, State
from retroact.values import evaluate_all

ARGUMENT_NAMES = "abcd"


class Patch:
    """The new program, and what becomes of the old kinds and effects."""

    def __init__(self, program, kinds, effects):
        self.program = program
        self.kinds = dict(kinds)
        self.effects = list(effects)


def check_patch(old, patch):
    """Raise InvalidPatch if the patch is not as described for the old program."""
    for actor in old.actors:
        if actor.name not in patch.kinds or not _is_kind_as_described(old, patch, actor):
            raise InvalidPatch(actor.name)
    effect = _first_wrong(patch.effects, dict(old.effects), dict(patch.program.effects))
    if effect is not None:
        raise InvalidPatch(effect)


def same_patch(program):
    """Return the patch that changes nothing for the program."""
    kinds = {}
    for actor in program.actors:
        states = [(name, ("name", name)) for name, expression in actor.states]
        messages = [_same_row(message, len(parameters)) for message, parameters, body in actor.handlers]
        kinds[actor.name] = (actor.name, states, messages)
    return Patch(program, kinds, [_same_row(effect, count) for effect, count in program.effects])


def convert(old, patch, state):
    """Return the converted state, or raise InvalidPatch or ConversionFault."""
    check_patch(old, patch)
    beings = {}
    for path in _paths_that_stay(patch, state):
        beings[path] = _converted_being(patch, path, state.beings[path])
    kinds = {path: state.beings[path].kind for path in beings}
    waiting = [_converted_waiting(old, patch, kinds, row) for row in state.waiting]
    pending = [_converted_pending(patch, kinds, row) for row in state.pending]
    waiting = [row for row in waiting if row is not None]
    pending = [row for row in pending if row is not None]
    return State(beings, waiting, pending, state.gone)


def converted_message(patch, kind, message, arguments):
    """Return the pair of the new message and its arguments, or None if the kind's list does not name it."""
    return _converted_row(_row_of(_messages_of(patch, kind), message), arguments)


def converted_call(patch, effect, arguments):
    """Return the pair of the new effect and its arguments, or None if the patch does not name it."""
    return _converted_row(_row_of(patch.effects, effect), arguments)


def _same_row(name, count):
    return (name, name, [("name", letter) for letter in ARGUMENT_NAMES[:count]])


def _is_kind_as_described(old, patch, actor):
    """Tell if what becomes of an old kind is as described."""
    is_main = actor.name == old.actors[0].name
    if patch.kinds[actor.name] is None:
        return not is_main
    kind, states, messages = patch.kinds[actor.name]
    new = actor_of(patch.program, kind)
    if new is None or is_main and kind != patch.program.actors[0].name:
        return False
    if [name for name, expression in states] != [name for name, expression in new.states]:
        return False
    known = [name for name, expression in actor.states]
    if not all([is_expression_let_by(expression, known) for name, expression in states]):
        return False
    return _first_wrong(messages, _messages_taken(actor), _messages_taken(new)) is None


def _messages_taken(actor):
    """Return a dict of the messages of an actor, with their numbers of arguments."""
    return {message: len(parameters) for message, parameters, body in actor.handlers}


def _first_wrong(rows, olds, news):
    """Return the old name of the first row that is not as described, or None.

    `olds` and `news` have the numbers of arguments of what the old and the new names stand for.
    """
    seen = {}
    for old, new, expressions in rows:
        if old in seen or old not in olds or news.get(new) != len(expressions):
            return old
        known = list(ARGUMENT_NAMES[:olds[old]])
        if not all([is_expression_let_by(expression, known) for expression in expressions]):
            return old
        seen[old] = True
    return None


def _messages_of(patch, kind):
    """Return the list of what becomes of the messages of an old kind."""
    becomes = patch.kinds.get(kind)
    return [] if becomes is None else becomes[2]


def _row_of(rows, old):
    """Return the row that names what was old, or None."""
    for row in rows:
        if row[0] == old:
            return row
    return None


def _converted_row(row, arguments):
    if row is None:
        return None
    _, new, expressions = row
    return (new, evaluate_all(expressions, dict(zip(ARGUMENT_NAMES, arguments))))


def _paths_that_stay(patch, state):
    """Return the ascending list of the paths of the beings that are not removed."""
    removed = {}
    for path in sorted(state.beings):
        # Ascending paths have the paths that they begin with ahead of them.
        if patch.kinds[state.beings[path].kind] is None or any([path[:n] in removed for n in range(len(path))]):
            removed[path] = True
    return [path for path in sorted(state.beings) if path not in removed]


def _converted_being(patch, path, being):
    kind, states, _ = patch.kinds[being.kind]
    try:
        numbers = evaluate_all([expression for name, expression in states], being.states)
    except Fault as fault:
        raise ConversionFault(path, fault.reason) from None
    names = [name for name, expression in states]
    return Being(kind, dict(zip(names, numbers)), spawned=being.spawned, sent=being.sent, called=being.called,
                 mode=being.mode)


def _converted_waiting(old, patch, kinds, row):
    """Return the converted message, or None if it is left out; `kinds` has the old kinds of what stays."""
    path, message, arguments, origin = row
    if path not in kinds or handler_of(old, kinds[path], message, len(arguments)) is None:
        return None
    try:
        pair = converted_message(patch, kinds[path], message, arguments)
    except Fault as fault:
        raise ConversionFault(path, fault.reason) from None
    return None if pair is None else (path, pair[0], pair[1], origin)


def _converted_pending(patch, kinds, row):
    """Return the converted call, or None if it is left out; `kinds` has the old kinds of what stays."""
    key, effect, arguments, message = row
    if key[0] not in kinds:
        return None
    if message is not None:
        named = _row_of(_messages_of(patch, kinds[key[0]]), message)
        if named is None:
            return None
        message = named[1]
    try:
        pair = converted_call(patch, effect, arguments)
    except Fault as fault:
        raise ConversionFault(key[0], fault.reason) from None
    return None if pair is None else (key, pair[0], pair[1], message)
