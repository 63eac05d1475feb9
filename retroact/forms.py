"""The forms of the lines that declare something: effects, actors, states and handlers."""

from retroact.grammar import read_expression, read_parameters
from retroact.limits import MOST_ACTORS, MOST_ARGUMENTS, MOST_EFFECTS, MOST_HANDLERS, MOST_PARAMETERS, MOST_STATES


def _read_effect(draft, cursor):
    """Read a line `effect NAME NUMBER`."""
    name = cursor.take_new_name(draft.effects, "twice")
    count = cursor.take_number()
    cursor.close()
    cursor.check_limit(len(draft.effects) < MOST_EFFECTS and count <= MOST_ARGUMENTS)
    draft.effects[name] = count


def _read_actor(draft, cursor):
    """Read a line `actor NAME [ ( NAMES ) ]`."""
    name = cursor.take_new_name(draft.kinds, "twice")
    parameters = []
    # The first actor is the main one, which has no parameters: its line ends behind the name.
    if draft.kinds:
        parameters = read_parameters(cursor)
    cursor.close()
    cursor.check_limit(len(draft.kinds) < MOST_ACTORS and len(parameters) <= MOST_PARAMETERS)
    draft.begin_actor(name, parameters)


def _read_state(draft, cursor):
    """Read a line `state NAME = EXP`."""
    actor = draft.actor
    known = actor.parameters + draft.state_names()
    name = cursor.take_new_name(known, "twice")
    cursor.expect("=")
    expression = read_expression(cursor, known)
    cursor.close()
    cursor.check_limit(len(actor.states) < MOST_STATES)
    actor.states.append((name, expression))


def _read_handler(draft, cursor):
    """Read a line `on NAME [ ( NAMES ) ]`."""
    handlers = draft.actor.handlers
    message = cursor.take_new_name([handler[0] for handler in handlers], "twice")
    parameters = read_parameters(cursor)
    cursor.close()
    cursor.check_limit(len(handlers) < MOST_HANDLERS and len(parameters) <= MOST_PARAMETERS)
    draft.begin_handler(message, parameters)


def _read_end(draft, cursor):
    """Read a line `end`."""
    cursor.close()
    draft.end_part()


def _read_else(draft, cursor):
    """Read a line `else`."""
    cursor.close()
    draft.scope.turn_over()


DECLARATIONS = {
    "effect": _read_effect,
    "actor": _read_actor,
    "state": _read_state,
    "on": _read_handler,
    "else": _read_else,
    "end": _read_end,
}
