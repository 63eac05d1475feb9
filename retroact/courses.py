"""What events make of an unknown argument, for all of its values at once."""

from retroact.errors import TooLarge
from retroact.machine import apply_with, first_state, is_possible
from retroact.reckoning import Reckoning
from retroact.shapes import numbers_of, shape_of, with_numbers
from retroact.tracks import along, one_domain, one_track
from retroact.ways import begin_all, run_all

MOST_CASES = 400


class Course:
    """What the events so far have told and made for the numbers of a domain: a state with tracks."""

    def __init__(self, domain, told, state, is_ended):
        self.domain = domain
        self.told = told
        self.state = state
        # True if an event was not possible.
        self.is_ended = is_ended


class Many:
    """An engine for all numbers of a domain, to be asked again and again until each of them has had its turn.

    In a turn it goes one way, for some of the numbers; the others are left for later turns.
    """

    def __init__(self, domain, reckoning):
        self.domain = domain
        self.reckoning = reckoning
        # The outcome of the handler for the numbers of this turn, or None as long as no handler was run.
        self.outcome = None
        self.left = [(domain, None)]

    def take_turn(self):
        """Begin the next turn."""
        self.domain, self.outcome = self.left.pop()

    def run(self, handler, states, spawned, arguments):
        """Return an outcome of the runs of a handler."""
        if self.outcome is None:
            self.left.extend(run_all(handler, states, spawned, arguments, self.domain, self.reckoning))
            self.take_turn()
        return self.outcome

    def begin(self, actor, arguments):
        """Return the dict of the tracks that an actor is born with, or None if there is a fault."""
        states, domain, failed = begin_all(actor, arguments, self.domain, self.reckoning)
        if not domain:
            return None
        if failed:
            self.left.append((failed, self.outcome))
        self.domain = domain
        return states


def courses_behind(program, events, unknown, least, greatest):
    """Return the courses of the replaced events for the numbers of an interval, or raise TooLarge or Crowded."""
    reckoning = Reckoning()
    interval = [(least, greatest)]
    courses = [Course(interval, [], _with_tracks(first_state(program), interval), False)]
    for at, event in enumerate(events):
        index = unknown.index if at == unknown.moment else None
        # For values it is the same whether an event is possible: each of them may stand for the unknown.
        plain = _replaced(event, index, least)
        found = []
        for course in courses:
            if course.is_ended or not is_possible(program, course.state, plain):
                found.append(Course(course.domain, course.told, course.state, True))
            else:
                given = _event_of_tracks(plain, index, interval)
                found.extend(_apply_to(program, course, given, at, Many(course.domain, reckoning), interval))
        # Where one course ends and another one begins, the runs differ in more than numbers.
        if sum([len(course.domain) for course in found]) > MOST_CASES:
            raise TooLarge("cases")
        courses = found
    return courses


def _apply_to(program, course, event, moment, engine, interval):
    """Return the list of the courses that an event makes of a course."""
    found = []
    while engine.left:
        engine.take_turn()
        state, told = apply_with(program, course.state, event, moment, engine)
        # An actor that fails at its birth has plain numbers.
        if len(state.beings) > len(course.state.beings):
            state = _with_tracks(state, interval)
        found.append(Course(engine.domain, [*course.told, told], state, False))
    return _met(found, engine.reckoning) if len(found) > 1 else found


def _met(courses, reckoning):
    """Return the courses behind an event as few as they are."""
    alike = {}
    for course in courses:
        alike.setdefault((course.told[-1], shape_of(course.state)), []).append(course)
    return [_one_course(alike[key], reckoning) for key in alike]


def _one_course(courses, reckoning):
    """Return the course of courses that differ in nothing but numbers."""
    first = courses[0]
    if len(courses) == 1:
        return first
    domains = [course.domain for course in courses]
    rows = [numbers_of(course.state) for course in courses]
    numbers = [reckoning.checked(one_track([row[k] for row in rows], domains)) for k in range(len(rows[0]))]
    return Course(one_domain(domains), first.told, with_numbers(first.state, numbers), False)


def _replaced(event, index, number):
    """Return the event with the number in the place of the argument with the index, if there is an index."""
    if index is None:
        return event
    word, path, message, arguments = event
    return (word, path, message, arguments[:index] + (number,) + arguments[index + 1:])


def _event_of_tracks(event, index, interval):
    """Return the event with tracks in the place of its values; the argument with the index is the unknown."""
    if event[0] == "deliver":
        return event
    if event[0] == "answer":
        return ("answer", event[1], along(interval, 0, event[2]))
    word, path, message, arguments = event
    tracks = [along(interval, 1, 0) if k == index else along(interval, 0, n) for k, n in enumerate(arguments)]
    return (word, path, message, tuple(tracks))


def _with_tracks(state, interval):
    """Return the state with tracks in the place of plain numbers."""
    tracks = [number if isinstance(number, list) else along(interval, 0, number) for number in numbers_of(state)]
    return with_numbers(state, tracks)
