"""How the whole range of an unknown argument is looked through."""

from retroact.courses import MOST_CASES, courses_behind
from retroact.crowded import Crowded
from retroact.errors import TooLarge
from retroact.pieces import Pieces
from retroact.reckoning import Reckoning
from retroact.tracks import one_domain, truth_of
from retroact.unknown import united


class Search:
    """Finds the pieces of the range, and the answer: where a condition over the states of an actor holds."""

    def __init__(self, program, events, unknown):
        self.program = program
        self.events = events
        self.unknown = unknown
        self.pieces = Pieces()
        self.answer = []

    def look_through(self, path, condition):
        """Look at all numbers of the range, at once or in as many portions as it takes, or raise TooLarge."""
        waiting = [(self.unknown.least, self.unknown.greatest)]
        while waiting:
            least, greatest = waiting.pop()
            try:
                self._look(least, greatest, path, condition)
            except Crowded as crowded:
                waiting.append((crowded.at + 1, greatest))
                waiting.append((least, crowded.at))

    def _look(self, least, greatest, path, condition):
        # What may be crowded comes first, so that nothing is kept of an interval that is to be cut.
        courses = courses_behind(self.program, self.events, self.unknown, least, greatest)
        found = _domain_where(courses, path, condition)
        self.pieces.add_courses(courses)
        self.answer = united(self.answer + found)
        # Each of them has an end within the range, at which the condition goes another way.
        if len(self.answer) > MOST_CASES:
            raise TooLarge("cases")


def _domain_where(courses, path, condition):
    """Return the domain of the numbers for which an actor is there and a condition over its states holds."""
    reckoning = Reckoning()
    domains = []
    for course in courses:
        being = course.state.beings.get(path)
        if being is not None:
            yes, _ = truth_of(reckoning.reckon(condition, being.states, course.domain, {}))
            domains.append(yes)
    return one_domain(domains)
