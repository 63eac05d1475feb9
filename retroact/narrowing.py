"""How handlers are run with forms of an unknown number in the place of values."""

from retroact.errors import Fault
from retroact.handlers import begin_with, run_with
from retroact.unknown import part_at_least, value_at
from retroact.values import GREATEST_VALUE, LEAST_VALUE


class Narrowing:
    """A reckoner with forms, and an engine, for the numbers of an interval.

    Everything goes as it goes for the least number. The interval is narrowed from above to those numbers for which
    it goes the same way, so that in the end all that was reckoned is right for each number that is left.
    """

    def __init__(self, least, greatest):
        self.least = least
        self.greatest = greatest

    def run(self, handler, states, spawned, arguments):
        """Return the outcome of a run of a handler."""
        return run_with(handler, states, spawned, arguments, self)

    def begin(self, actor, arguments):
        """Return the dict of the states that an actor is born with, or None if there is a fault."""
        return begin_with(actor, arguments, self)

    def reckon(self, expression, names):
        """Return the form of an expression, or raise Fault."""
        # As for values, first parts are walked down in a loop: a long row of operators is no deep recursion.
        operations = []
        part = expression
        while part[0] not in ("number", "name"):
            operations.append(part)
            part = part[1]
        form = names[part[1]] if part[0] == "name" else self._in_range((0, part[1]))
        for operation in reversed(operations):
            word = operation[0]
            if word == "negative":
                form = _negative(form)
            elif word == "not":
                form = (0, int(self._is_zero(form)))
            elif word in ("and", "or") and self.is_true(form) == (word == "or"):
                form = (0, int(word == "or"))
            else:
                form = self._joined(word, form, self.reckon(operation[2], names))
        return form

    def is_true(self, form):
        """Tell if a form is true."""
        return not self._is_zero(form)

    def whole(self, form):
        """Return the integer of a form."""
        return self._settled(form)[1]

    def told(self, integer):
        """Return the form of an integer."""
        return (0, integer)

    def _is_at_least(self, form):
        """Tell if a form is at least 0."""
        part = part_at_least(form, (self.least, self.greatest))
        if part is None:
            return False
        if part[0] > self.least:
            self.greatest = part[0] - 1
            return False
        self.greatest = part[1]
        return True

    def _is_zero(self, form):
        return self._is_at_least(form) and self._is_at_least(_negative(form))

    def _settled(self, form):
        """Return the form as one that does not depend on the unknown; then only one number is left."""
        if form[0] != 0:
            self.greatest = self.least
        return self._tidy(form)

    def _tidy(self, form):
        # For a single number slopes would grow without bounds, as they are in no range.
        if self.least == self.greatest:
            return (0, value_at(form, self.least))
        return form

    def _in_range(self, form):
        is_low = self._is_at_least(_sum(_negative(form), (0, GREATEST_VALUE)))
        if not is_low or not self._is_at_least(_sum(form, (0, -LEAST_VALUE))):
            raise Fault("range")
        return self._tidy(form)

    def _joined(self, word, first, second):
        if word in ("over", "rest"):
            return self._divided(word, first, second)
        if word == "plus":
            return self._in_range(_sum(first, second))
        if word == "minus":
            return self._in_range(_sum(first, _negative(second)))
        if word == "times":
            return self._in_range(self._product(first, second))
        if word in ("and", "or"):
            # They come here only if the second part decides.
            return (0, int(self.is_true(second)))
        return (0, int(self._is_so(word, _sum(second, _negative(first)))))

    def _is_so(self, word, difference):
        """Tell if a comparison is true, by its second part minus the first one."""
        if word == "same":
            return self._is_zero(difference)
        if word == "less":
            return self._is_at_least(_sum(difference, (0, -1)))
        return self._is_at_least(difference)

    def _divided(self, word, first, second):
        second = self._settled(second)
        if second[1] == 0:
            raise Fault("zero")
        quotient = self._quotient(first, second[1])
        if word == "over":
            return self._in_range(quotient)
        return self._tidy(_sum(first, _times(quotient, -second[1])))

    def _product(self, first, second):
        if first[0] != 0 and second[0] != 0:
            second = self._settled(second)
        if second[0] != 0:
            return _times(second, first[1])
        return _times(first, second[1])

    def _quotient(self, first, divisor):
        slope, start = first
        if slope % divisor == 0:
            return (slope // divisor, start // divisor)
        quotient = value_at(first, self.least) // divisor
        # Only those numbers are left for which the rest is one for this quotient.
        rest = (slope, start - divisor * quotient)
        if divisor < 0:
            rest = _negative(rest)
        self._is_at_least(rest)
        self._is_at_least(_sum(_negative(rest), (0, abs(divisor) - 1)))
        return (0, quotient)


def _negative(form):
    return _times(form, -1)


def _times(form, number):
    slope, start = form
    return (slope * number, start * number)


def _sum(form, other):
    return (form[0] + other[0], form[1] + other[1])
