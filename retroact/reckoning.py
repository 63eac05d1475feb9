"""How expressions are reckoned for all values of the unknown at once."""

from retroact.crowded import MOST_SEGMENTS, Crowded
from retroact.errors import TooLarge
from retroact.tracks import along, cut_to, domain_of, pairs, put, reach, signs, truth_of, whole
from retroact.unknown import part_at_least
from retroact.values import GREATEST_VALUE, LEAST_VALUE

# Into so many parts the numbers of a range are split at the most by products, quotients and the like of the unknown.
# More than 400 of them are a reason for TooLarge; so it is not raised for a range of at most 400 numbers.
MOST_PARTS = 4000
# The signs of the second part minus the first one for which a comparison is true.
SIGNS = {"less": (1,), "atmost": (0, 1), "same": (0,)}


class Reckoning:
    """Reckons with tracks.

    Where something cannot be done for some numbers, these are put into `faults`, a dict from reasons to intervals, and
    are not reckoned further: what is returned has only the others.
    """

    def __init__(self):
        # True if numbers were split by something else than sums, comparisons, and products with known numbers.
        self.is_split = False

    def reckon(self, expression, names, domain, faults):
        """Return the track of an expression on a domain."""
        # As for values, first parts are walked down in a loop: a long row of operators is no deep recursion.
        operations = []
        part = expression
        while part[0] not in ("number", "name"):
            operations.append(part)
            part = part[1]
        track = _leaf(part, names, domain, faults)
        for operation in reversed(operations):
            word = operation[0]
            if word == "negative":
                track = [(least, greatest, -slope, -start) for least, greatest, slope, start in track]
            elif word == "not":
                yes, no = truth_of(track)
                track = _zero_or_one(no, yes)
            else:
                # Where the first part decides, the second one is not reckoned.
                due = _domain_of_second(word, track)
                second = self.reckon(operation[2], names, due, faults) if due else []
                track = self.checked(self._joined(word, track, second, faults))
        return track

    def checked(self, rows):
        """Return ascending segments, or raise as check_room if there are too many."""
        self.check_room(rows, MOST_SEGMENTS)
        return rows

    def check_room(self, rows, most):
        """Raise Crowded, or TooLarge if there is a reason, for too many ascending rows; each begins with a number."""
        if self.is_split and len(rows) > MOST_PARTS:
            raise TooLarge("cases")
        if len(rows) > most:
            raise Crowded(rows[len(rows) // 2][0] - 1)

    def by_numbers(self, track):
        """Return the list of the pairs (number, domain) of the numbers of a track, ascending."""
        domains = {}
        for least, greatest, slope, start in track:
            if slope == 0:
                reach(domains.setdefault(start, []), least, greatest)
            else:
                for u in self._singles(least, greatest):
                    reach(domains.setdefault(slope * u + start, []), u, u)
            self.is_split = self.is_split or len(domains) > 1
            if len(domains) > MOST_PARTS:
                raise TooLarge("cases")
        return [(number, domains[number]) for number in sorted(domains)]

    def _singles(self, least, greatest):
        """Return the list of the numbers of an interval, each of which is to be reckoned by itself."""
        if greatest - least >= MOST_PARTS:
            raise TooLarge("cases")
        self.is_split = self.is_split or least < greatest
        return list(range(least, greatest + 1))

    def _joined(self, word, first, second, faults):
        if word in ("and", "or"):
            decided = truth_of(first)
            yes, no = truth_of(second)
            return _zero_or_one(yes, decided[1] + no) if word == "and" else _zero_or_one(decided[0] + yes, no)
        if word in SIGNS:
            return _compared(SIGNS[word], first, second)
        rows = []
        for row in pairs(first, second):
            if word in ("over", "rest"):
                rows.extend(self._quotients(word, row, faults))
            elif word == "times":
                rows.extend(self._products(row))
            else:
                least, greatest, slope, start, steepness, beginning = row
                sign = 1 if word == "plus" else -1
                rows.append((least, greatest, slope + sign * steepness, start + sign * beginning))
            self.checked(rows)
        return within(rows, (LEAST_VALUE, GREATEST_VALUE), "range", faults)

    def _products(self, row):
        least, greatest, slope, start, steepness, beginning = row
        if slope == 0:
            return [(least, greatest, start * steepness, start * beginning)]
        if steepness == 0:
            return [(least, greatest, slope * beginning, start * beginning)]
        numbers = self._singles(least, greatest)
        return [(u, u, 0, (slope * u + start) * (steepness * u + beginning)) for u in numbers]

    def _quotients(self, word, row, faults):
        """Return the segments of the quotients or of the rests of a row of two forms."""
        least, greatest, slope, start, steepness, beginning = row
        if steepness == 0:
            return self._quotients_by(word, (least, greatest, slope, start), beginning, faults)
        rows = []
        for u in self._singles(least, greatest):
            rows.extend(self._quotients_by(word, (u, u, 0, slope * u + start), steepness * u + beginning, faults))
        return rows

    def _quotients_by(self, word, segment, divisor, faults):
        if divisor == 0:
            add_fault(faults, "zero", segment[0], segment[1])
            return []
        rows = self._steps(segment, divisor)
        if word == "over":
            return rows
        _, _, slope, start = segment
        return [(first, last, slope - divisor * steepness, start - divisor * quotient)
                for first, last, steepness, quotient in rows]

    def _steps(self, segment, divisor):
        """Return the segments of the quotients of a segment by a divisor that is not 0."""
        least, greatest, slope, start = segment
        if divisor < 0:
            slope, start, divisor = -slope, -start, -divisor
        # The whole multiples of the divisor in the slope divide everywhere; what is left goes up by steps.
        steepness, left = divmod(slope, divisor)
        rows = []
        while least <= greatest:
            quotient = (left * least + start) // divisor
            last = greatest
            if left > 0:
                last = min(greatest, (divisor * (quotient + 1) - 1 - start) // left)
            self.is_split = self.is_split or last < greatest
            rows.append((least, last, steepness, quotient))
            self.checked(rows)
            least = last + 1
        return rows


def within(rows, limits, reason, faults):
    """Return the track of ascending segments where they are within two limits; elsewhere is a fault."""
    track = []
    for least, greatest, slope, start in rows:
        part = part_at_least((slope, start - limits[0]), (least, greatest))
        if part is not None:
            part = part_at_least((-slope, limits[1] - start), part)
        if part is None:
            add_fault(faults, reason, least, greatest)
        else:
            add_fault(faults, reason, least, part[0] - 1)
            put(track, part[0], part[1], slope, start)
            add_fault(faults, reason, part[1] + 1, greatest)
    return track


def add_fault(faults, reason, least, greatest):
    """Put an interval, if it has a number, into a dict of faults."""
    if least <= greatest:
        faults.setdefault(reason, []).append((least, greatest))


def _leaf(leaf, names, domain, faults):
    if leaf[0] == "number":
        return within(along(domain, 0, leaf[1]), (LEAST_VALUE, GREATEST_VALUE), "range", faults)
    return cut_to(names[leaf[1]], domain)


def _domain_of_second(word, track):
    """Return the domain on which the second part is reckoned, behind the track of the first one."""
    if word == "and":
        return truth_of(track)[0]
    if word == "or":
        return truth_of(track)[1]
    return domain_of(track)


def _zero_or_one(yes, no):
    """Return the track that is 1 on the intervals of a list, and 0 on those of another one."""
    return whole([(least, greatest, 0, 1) for least, greatest in yes]
                 + [(least, greatest, 0, 0) for least, greatest in no])


def _compared(true_signs, first, second):
    """Return the track of a comparison that is true for some signs of the second part minus the first one."""
    track = []
    for least, greatest, slope, start, steepness, beginning in pairs(first, second):
        for low, high, sign in signs(least, greatest, steepness - slope, beginning - start):
            put(track, low, high, 0, int(sign in true_signs))
    return track
