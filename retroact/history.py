"""Histories, and the changes from a state to another one."""

from retroact.errors import InvalidMoment
from retroact.machine import apply, copied_state, first_state


class History:
    """The events that were recorded for a program, and some of the states behind them."""

    def __init__(self, program, *, every=8):
        self.program = program
        self._every = every
        self._events = []
        self._told = []
        self._last = first_state(program)
        self._states = {0: self._last}

    def record(self, event):
        """Add an event and return what it tells, or raise ImpossibleEvent."""
        state, told = apply(self.program, self._last, event, len(self._events))
        self._events.append(event)
        self._told.append(told)
        self._last = state
        if len(self._events) % self._every == 0:
            self._states[len(self._events)] = state
        return told

    def events(self):
        """Return the list of the events."""
        return list(self._events)

    def told(self):
        """Return the list of what the events told."""
        return list(self._told)

    def state_at(self, moment):
        """Return the state at a moment, or raise InvalidMoment."""
        self._check(moment)
        if moment == len(self._events):
            return copied_state(self._last)
        start = max([kept for kept in self._states if kept <= moment])
        state = copied_state(self._states[start])
        for at in range(start, moment):
            state, _ = apply(self.program, state, self._events[at], at)
        return state

    def kept(self):
        """Return the ascending list of the moments whose states are kept."""
        return sorted(self._states)

    def forget(self, moments):
        """Keep the states at these moments no longer, except at 0."""
        for moment in moments:
            if moment != 0 and moment in self._states:
                del self._states[moment]

    def cut(self, moment):
        """Return a new history with the first events, or raise InvalidMoment."""
        self._check(moment)
        shorter = History(self.program, every=self._every)
        for event in self._events[:moment]:
            shorter.record(event)
        return shorter

    def _check(self, moment):
        if not 0 <= moment <= len(self._events):
            raise InvalidMoment(moment)


def states_of(program, events):
    """Return the list of the states at all moments, or raise ImpossibleEvent."""
    states = [first_state(program)]
    for moment, event in enumerate(events):
        state, _ = apply(program, states[-1], event, moment)
        states.append(state)
    return states


def changes(first, second):
    """Return the list of the changes from a state to another one."""
    found = []
    for path in sorted(set(list(first.beings) + list(second.beings))):
        if path not in first.beings:
            found.append(("born", path))
        elif path not in second.beings:
            found.append(("missing", path))
        else:
            found.extend(_changes_of_being(path, first.beings[path], second.beings[path]))
    origins = [message[3] for message in first.waiting]
    later_origins = [message[3] for message in second.waiting]
    keys = [call[0] for call in first.pending]
    later_keys = [call[0] for call in second.pending]
    found.extend([("waits", origin) for origin in _only(later_origins, origins)])
    found.extend([("came", origin) for origin in _only(origins, later_origins)])
    found.extend([("calls", key) for key in _only(later_keys, keys)])
    found.extend([("closed", key) for key in _only(keys, later_keys)])
    return found


def _changes_of_being(path, before, after):
    found = []
    if before.kind != after.kind:
        found.append(("kind", path, before.kind, after.kind))
    else:
        # States of two programs may differ in their names: only a state of both has two values.
        for name in sorted(before.states):
            if name in after.states and before.states[name] != after.states[name]:
                found.append(("state", path, name, before.states[name], after.states[name]))
    if before.mode != after.mode:
        found.append(("mode", path, before.mode, after.mode))
    return found


def _only(rows, others):
    """Return the list of the rows that are not among the others."""
    known = {row: True for row in others}
    return [row for row in rows if row not in known]
