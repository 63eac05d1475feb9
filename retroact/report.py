"""How answers are written: what events told, and reports of states, of changes and of branches."""

from retroact.differences import calls_since, difference
from retroact.errors import TooLarge
from retroact.history import changes, states_of
from retroact.journal import write_event
from retroact.kinds import actor_of
from retroact.patches import Patch, same_patch
from retroact.plans import cost, plan
from retroact.prices import Prices
from retroact.words import write_path

# What it costs to undo and to do a call, and to change one: the base, and each unit.
PRICES = (2, 2, (1, 0))


def told_line(told):
    """Return the line of what an event told."""
    word = told[0]
    if word == "answered":
        return f"answered {_key(told[1])}"
    words = [word, write_path(told[1]), *told[2:]]
    return _line([part for part in words if part is not None])


def state_report(program, state):
    """Return the list of the lines of a report of a state of the program."""
    lines = [_being_line(program, path, state.beings[path]) for path in sorted(state.beings)]
    for path, message, arguments, _ in state.waiting:
        lines.append(_line(["waits", write_path(path), message, *arguments]))
    return lines + [_call_line("calls", call[:3]) for call in state.pending]


def changes_report(first, second):
    """Return the list of the lines of a report of the changes from a state to another one."""
    return [_change_line(change) for change in changes(first, second)]


def branch_report(program, events, one):
    """Return the list of the lines of a report of a branch of the history with these events."""
    lines = []
    for word, told in one.fits:
        lines.append(f"fits {write_event(told)}" if word == "fits" else f"misfit {told}")
    past = states_of(program, events)
    _, there, here = difference(calls_since(past[one.moment], past[-1]), calls_since(one.first, one.states[-1]))
    lines.extend([_call_line("undo", call) for call in there])
    lines.extend([_call_line("do", call) for call in here])
    return [*lines, f"cost {_cost_word(there, here)}"]


def by_names(old, new):
    """Return the patch by names from an old program to a new one."""
    same = same_patch(old)
    kinds = {}
    for at, actor in enumerate(old.actors):
        becomes = new.actors[0] if at == 0 else actor_of(new, actor.name)
        kinds[actor.name] = None
        if becomes is not None:
            _, states, messages = same.kinds[actor.name]
            taken = {message: len(parameters) for message, parameters, body in becomes.handlers}
            kinds[actor.name] = (becomes.name, _states_by_names(states, becomes), _rows_that_stay(messages, taken))
    return Patch(new, kinds, _rows_that_stay(same.effects, dict(new.effects)))


def _line(parts):
    return " ".join([str(part) for part in parts])


def _key(key):
    path, number = key
    return f"{write_path(path)} {number}"


def _being_line(program, path, being):
    parts = [write_path(path), being.kind, being.mode]
    for name, _ in actor_of(program, being.kind).states:
        parts.append(f"{name}={being.states[name]}")
    return _line(parts)


def _call_line(word, call):
    key, effect, arguments = call
    return _line([word, _key(key), effect, *arguments])


def _change_line(change):
    word, first = change[0], change[1]
    if word in ("waits", "came"):
        return f"{word} {_origin(first)}"
    if word in ("calls", "closed"):
        return f"{word} {_key(first)}"
    return _line([word, write_path(first), *change[2:]])


def _origin(origin):
    word = origin[0]
    if word == "sent":
        return f"sent {_key(origin[1:])}"
    if word == "answer":
        return f"answer {_key(origin[1])}"
    return _line(origin)


def _cost_word(there, here):
    prices = Prices({effect: PRICES for _, effect, _ in there + here})
    try:
        deeds, _ = plan(there, here, prices)
    except TooLarge:
        return "large"
    return str(cost(there, here, prices, deeds))


def _states_by_names(states, actor):
    """Return a pair for each state of an actor of the new program; `states` has those that stay as they are."""
    olds = dict(states)
    return [(name, olds.get(name, ("number", 0))) for name, _ in actor.states]


def _rows_that_stay(rows, counts):
    """Return the rows of those that the new program has with as many arguments."""
    return [row for row in rows if counts.get(row[0]) == len(row[2])]
