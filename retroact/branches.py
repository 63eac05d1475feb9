"""Branches: what a new program makes of the later events of a history."""

from retroact.errors import Fault
from retroact.history import states_of
from retroact.machine import apply, copied_state
from retroact.patches import convert, converted_call, converted_message


class Branch:
    """A branch of a history at a moment: its first state, how each later event fits, and all its states."""

    def __init__(self, first, fits, states, patch, moment):
        self.first = first
        self.fits = fits
        self.states = states
        self.patch = patch
        self.moment = moment


def branch(program, events, moment, patch):
    """Return the branch of a history at a moment, or raise InvalidPatch or ConversionFault."""
    past = states_of(program, events)
    first = convert(program, patch, past[moment])
    states = [copied_state(first)]
    fits = []
    for at in range(moment, len(events)):
        fit = _fitted(patch, past[at], states[-1], events[at])
        if fit[0] == "fits":
            behind, _ = apply(patch.program, states[-1], fit[1], at)
        else:
            behind = copied_state(states[-1])
        fits.append(fit)
        states.append(behind)
    return Branch(first, fits, states, patch, moment)


def branch_events(one):
    """Return the list of the fitted events of a branch."""
    return [told for word, told in one.fits if word == "fits"]


def _fitted(patch, past, now, event):
    """Return ("fits", event) or ("misfit", reason) for an event, with the history's and the branch's state."""
    if event[0] == "input":
        return _fitted_input(patch, past, now, event)
    if event[0] == "deliver":
        return _fitted_delivery(past, now, event)
    return _fitted_answer(patch, past, now, event)


def _fitted_input(patch, past, now, event):
    _, path, message, arguments = event
    being = now.beings.get(path)
    if being is None:
        return ("misfit", "actor")
    if being.mode != "on":
        return ("misfit", "mode")
    kind = past.beings[path].kind
    becomes = patch.kinds[kind]
    if becomes is None or becomes[0] != being.kind:
        return ("misfit", "message")
    try:
        pair = converted_message(patch, kind, message, arguments)
    except Fault:
        return ("misfit", "fault")
    if pair is None:
        return ("misfit", "message")
    return ("fits", ("input", path, pair[0], pair[1]))


def _fitted_delivery(past, now, event):
    origin = past.waiting[event[1]][3]
    for at, message in enumerate(now.waiting):
        if message[3] == origin:
            return ("fits", ("deliver", at))
    return ("misfit", "waiting")


def _fitted_answer(patch, past, now, event):
    _, at, number = event
    key, effect, arguments, _ = past.pending[at]
    try:
        pair = converted_call(patch, effect, arguments)
    except Fault:
        return ("misfit", "call")
    for place, call in enumerate(now.pending):
        if call[0] == key and (call[1], call[2]) == pair:
            return ("fits", ("answer", place, number))
    return ("misfit", "call")
