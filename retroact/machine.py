"""States of the machine, and what events make of them."""

from retroact.errors import ImpossibleEvent
from retroact.handlers import Reckoner, begin_with, run_handler
from retroact.kinds import actor_of, handler_of
from retroact.values import is_value


class Being:
    """An actor of a state: its kind, the values of its states, its numbers and its mode."""

    def __init__(self, kind, states, *, spawned=0, sent=0, called=0, mode="on"):
        self.kind = kind
        self.states = dict(states)
        self.spawned = spawned
        self.sent = sent
        self.called = called
        self.mode = mode


class State:
    """A state: its beings by their paths, and its messages and calls."""

    def __init__(self, beings, waiting, pending, gone):
        self.beings = {path: beings[path] for path in beings}
        self.waiting = list(waiting)
        self.pending = list(pending)
        self.gone = list(gone)


class Plain:
    """The engine that reckons with values."""

    def run(self, handler, states, spawned, arguments):
        """Return the outcome of a run of a handler."""
        return run_handler(handler, states, spawned, arguments)

    def begin(self, actor, arguments):
        """Return the dict of the states that an actor is born with, or None if there is a fault."""
        return begin_with(actor, arguments, Reckoner())


def same_state(state, other):
    """Tell if all parts of two states are equal."""
    if state.waiting != other.waiting or state.pending != other.pending or state.gone != other.gone:
        return False
    return _attributes_of_beings(state) == _attributes_of_beings(other)


def born(program, kind, arguments):
    """Return the being of the kind that is born."""
    return _born_with(program, kind, arguments, Plain())


def first_state(program):
    """Return the first state of a program: the main actor is born, and nothing waits."""
    return State({(): born(program, program.actors[0].name, ())}, [], [], [])


def is_possible(program, state, event):
    """Tell if an event is possible in a state."""
    if event[0] == "deliver":
        return 0 <= event[1] < len(state.waiting)
    if event[0] == "answer":
        return 0 <= event[1] < len(state.pending) and is_value(event[2])
    _, path, message, arguments = event
    if _handler_that_takes(program, state, path, message, arguments) is None:
        return False
    return all([is_value(argument) for argument in arguments])


def apply(program, state, event, moment):
    """Return the pair of the state behind an event and of what it tells, or raise ImpossibleEvent."""
    if not is_possible(program, state, event):
        raise ImpossibleEvent(event)
    return apply_with(program, state, event, moment, Plain())


def apply_with(program, state, event, moment, engine):
    """Do the same as `apply` with another engine, for an event that is possible."""
    # All that follows changes this copy only, and nothing in it is shared with the state before.
    after = copied_state(state)
    if event[0] == "input":
        told = _take_input(after, event, moment)
    elif event[0] == "deliver":
        told = _deliver(program, after, event, engine)
    else:
        told = _take_answer(after, event)
    return after, told


def inputs_of(program, state):
    """Return the list of the tuples (path, message, number of arguments) of all possible inputs."""
    found = []
    for path in sorted(state.beings):
        being = state.beings[path]
        if being.mode == "on":
            for message, parameters, _ in actor_of(program, being.kind).handlers:
                found.append((path, message, len(parameters)))
    return found


def copied_state(state):
    """Return a copy of a state that shares no being with it."""
    copies = {}
    for path in state.beings:
        being = state.beings[path]
        copies[path] = Being(being.kind, being.states, spawned=being.spawned, sent=being.sent, called=being.called,
                             mode=being.mode)
    return State(copies, state.waiting, state.pending, state.gone)


def _attributes_of_beings(state):
    rows = {}
    for path in state.beings:
        being = state.beings[path]
        rows[path] = (being.kind, being.states, being.spawned, being.sent, being.called, being.mode)
    return rows


def _born_with(program, kind, arguments, engine):
    actor = actor_of(program, kind)
    states = engine.begin(actor, arguments)
    if states is None:
        return Being(kind, {name: 0 for name, expression in actor.states}, mode="failed")
    return Being(kind, states)


def _handler_that_takes(program, state, path, message, arguments):
    """Return the handler of the actor with the path, if it is there and on, for the message, or None."""
    being = state.beings.get(path)
    if being is None or being.mode != "on":
        return None
    return handler_of(program, being.kind, message, len(arguments))


def _take_input(after, event, moment):
    _, path, message, arguments = event
    after.waiting.append((path, message, arguments, ("input", moment)))
    return ("input", path, message)


def _take_answer(after, event):
    _, at, number = event
    key, _, _, message = after.pending.pop(at)
    if message is not None:
        after.waiting.append((key[0], message, (number,), ("answer", key)))
    return ("answered", key)


def _deliver(program, after, event, engine):
    path, message, arguments, _ = after.waiting.pop(event[1])
    handler = _handler_that_takes(program, after, path, message, arguments)
    if handler is None:
        return ("dropped", path, message)
    being = after.beings[path]
    outcome = engine.run(handler, being.states, being.spawned, arguments)
    being.states = dict(outcome.states)
    for deed in outcome.deeds:
        _carry_out(program, after, path, deed, engine)
    if outcome.kind != "done":
        being.mode = outcome.kind
    return ("handled", path, message, outcome.kind, outcome.reason)


def _carry_out(program, after, path, deed, engine):
    """Carry out a deed of the actor with the path."""
    being = after.beings[path]
    if deed[0] == "send":
        _carry_out_send(after, path, being, deed)
    elif deed[0] == "spawn":
        after.beings[path + (being.spawned,)] = _born_with(program, deed[1], deed[2], engine)
        being.spawned += 1
    else:
        _, effect, arguments, message = deed
        key = (path, being.called)
        after.gone.append((key, effect, arguments))
        after.pending.append((key, effect, arguments, message))
        being.called += 1


def _carry_out_send(after, path, being, deed):
    _, target, message, arguments = deed
    # The main actor has no parent, but the message to it is counted.
    if target[0] != "parent" or path != ():
        receiver = _receiver_of(path, target)
        after.waiting.append((receiver, message, arguments, ("sent", path, being.sent)))
    being.sent += 1


def _receiver_of(path, target):
    if target[0] == "parent":
        return path[:-1]
    if target[0] == "child":
        return path + (target[1],)
    return path
