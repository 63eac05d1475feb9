"""What would have been for each value of an unknown argument, told case by case."""

from retroact.courses import MOST_CASES
from retroact.errors import InvalidUnknown, TooLarge
from retroact.search import Search
from retroact.shapes import numbers_of, same_shape, with_numbers
from retroact.unknown import parts_range, value_at
from retroact.values import is_value


class Unknown:
    """An argument of an input that is not known, and the range of its values."""

    def __init__(self, moment, index, least, greatest):
        self.moment = moment
        self.index = index
        self.least = least
        self.greatest = greatest


class Case:
    """An interval of the range: how many events are applied, what they tell, and the state of forms behind them."""

    def __init__(self, least, greatest, done, told, state):
        self.least = least
        self.greatest = greatest
        self.done = done
        self.told = list(told)
        self.state = state


def make_cases(program, events, unknown):
    """Return accepted cases, or raise InvalidUnknown or TooLarge."""
    search = _searched(program, events, unknown, (), ("number", 0))
    return [_case_of(piece) for piece in search.pieces.best()]


def state_of(case, u):
    """Return the state of a case with a number in the place of the unknown."""
    return with_numbers(case.state, [value_at(form, u) for form in numbers_of(case.state)])


def accepts_cases(program, events, unknown, cases):
    """Tell if cases are accepted."""
    if not parts_range([(case.least, case.greatest) for case in cases], unknown.least, unknown.greatest):
        return False
    # Both lists part the range: each case is compared with those that it shares numbers with.
    right = make_cases(program, events, unknown)
    at = 0
    for case in cases:
        while right[at].greatest < case.least:
            at += 1
        behind = at
        while behind < len(right) and right[behind].least <= case.greatest:
            if not _agree(case, right[behind]):
                return False
            behind += 1
    return True


def where(program, events, unknown, path, condition):
    """Return the longest intervals of the range for whose numbers the condition holds, or raise as make_cases."""
    answer = _searched(program, events, unknown, path, condition).answer
    # Each end of an interval within the range would begin another case.
    ends = [first for first, last in answer if first > unknown.least]
    ends.extend([last for first, last in answer if last < unknown.greatest])
    if len(ends) >= MOST_CASES:
        raise TooLarge("cases")
    return answer


def _is_valid(events, unknown):
    """Tell if there is the argument of an input, and its range is one of values."""
    if not is_value(unknown.least) or not is_value(unknown.greatest) or unknown.least > unknown.greatest:
        return False
    if not 0 <= unknown.moment < len(events) or events[unknown.moment][0] != "input":
        return False
    return 0 <= unknown.index < len(events[unknown.moment][3])


def _searched(program, events, unknown, path, condition):
    """Return the search through the range, or raise InvalidUnknown or TooLarge."""
    if not _is_valid(events, unknown):
        raise InvalidUnknown()
    search = Search(program, events, unknown)
    search.look_through(path, condition)
    return search


def _case_of(piece):
    forms = piece.forms
    if piece.least == piece.greatest:
        forms = [(0, value_at(form, piece.least)) for form in forms]
    told = piece.course.told
    return Case(piece.least, piece.greatest, len(told), told, with_numbers(piece.course.state, forms))


def _agree(case, other):
    """Tell if two cases say the same of each number of both."""
    if case.done != other.done or case.told != other.told or not same_shape(case.state, other.state):
        return False
    # Two forms that are equal at both ends are equal for all numbers between them.
    ends = (max(case.least, other.least), min(case.greatest, other.greatest))
    for form, right in zip(numbers_of(case.state), numbers_of(other.state)):
        if not all([value_at(form, u) == value_at(right, u) for u in ends]):
            return False
    return True
