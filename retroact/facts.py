"""The facts of a history, about which questions can be asked."""

from retroact.differences import calls_since
from retroact.machine import apply, first_state
from retroact.rules import sorted_facts


def facts_of(program, events):
    """Return the list of the facts of the history with these events, in order, or raise ImpossibleEvent."""
    state = first_state(program)
    found = _facts_of_moment(state, 0)
    # For each message that has waited the index of the event behind which it waited first.
    came = {}
    for at, event in enumerate(events):
        behind, told = apply(program, state, event, at)
        if event[0] == "deliver":
            found.append(("caused", (came[state.waiting[event[1]][3]], at)))
        for message in behind.waiting:
            came.setdefault(message[3], at)
        found.append(("event", (at, event[0])))
        found.extend(_facts_of_told(told, at))
        found.extend(_facts_of_calls(calls_since(state, behind), at))
        found.extend(_facts_of_moment(behind, at + 1))
        state = behind
    return sorted_facts(found)


def _facts_of_moment(state, moment):
    found = []
    for path in state.beings:
        being = state.beings[path]
        found.append(("being", (path, being.kind, moment)))
        found.append(("mode", (path, being.mode, moment)))
        found.extend([("state", (path, name, being.states[name], moment)) for name in being.states])
    return found


def _facts_of_told(told, at):
    if told[0] == "handled":
        _, path, message, outcome, _ = told
        return [("handled", (path, message, outcome, at))]
    if told[0] == "dropped":
        _, path, message = told
        return [("dropped", (path, message, at))]
    if told[0] == "answered":
        path, number = told[1]
        return [("answered", (path, number, at))]
    return []


def _facts_of_calls(calls, at):
    found = []
    for (path, number), effect, arguments in calls:
        found.append(("called", (path, number, effect, at)))
        found.extend([("argument", (path, number, k, argument)) for k, argument in enumerate(arguments)])
    return found
