"""The numbers in a state: the values of its actors' states and the arguments of its messages and calls."""

from retroact.machine import Being, State


def numbers_of(state):
    """Return the list of all numbers in a state, those of its beings first, by their paths and names."""
    numbers = []
    for path in sorted(state.beings):
        states = state.beings[path].states
        numbers.extend([states[name] for name in sorted(states)])
    for row in state.waiting + state.pending + state.gone:
        numbers.extend(row[2])
    return numbers


def with_numbers(state, numbers):
    """Return a new state that is like the state, but for its numbers, which are given in the order of numbers_of."""
    at = 0
    beings = {}
    for path in sorted(state.beings):
        being = state.beings[path]
        worths = dict(zip(sorted(being.states), numbers[at:at + len(being.states)]))
        beings[path] = Being(being.kind, {name: worths[name] for name in being.states}, spawned=being.spawned,
                             sent=being.sent, called=being.called, mode=being.mode)
        at += len(worths)
    rows = []
    for row in state.waiting + state.pending + state.gone:
        rows.append((row[0], row[1], tuple(numbers[at:at + len(row[2])]), *row[3:]))
        at += len(row[2])
    calls = len(state.waiting) + len(state.pending)
    return State(beings, rows[:len(state.waiting)], rows[len(state.waiting):calls], rows[calls:])


def same_shape(state, other):
    """Tell if two states are equal in all but their numbers."""
    return shape_of(state) == shape_of(other)


def shape_of(state):
    """Return all that a state is besides its numbers, as a tuple."""
    beings = []
    for path in sorted(state.beings):
        being = state.beings[path]
        names = tuple(sorted(being.states))
        beings.append((path, being.kind, names, being.spawned, being.sent, being.called, being.mode))
    kept = [tuple(beings)]
    for rows in (state.waiting, state.pending, state.gone):
        kept.append(tuple([(row[0], row[1], len(row[2]), *row[3:]) for row in rows]))
    return tuple(kept)
