"""Pieces of a range, on each of which all is told by one form for each number."""

from retroact.courses import MOST_CASES
from retroact.errors import TooLarge
from retroact.shapes import numbers_of, same_shape
from retroact.tracks import cut_to
from retroact.unknown import value_at


class Piece:
    """An interval, the course that its numbers belong to, and the forms of the numbers in the state of the course."""

    def __init__(self, least, greatest, course, forms):
        self.least = least
        self.greatest = greatest
        self.course = course
        self.forms = forms


class Row:
    """Pieces in ascending order; two neighbours that can be told as one are one piece.

    If it is tight, each piece is as long as it can be, behind the ones before it, so that no row has fewer pieces.
    Otherwise a piece is never cut.
    """

    def __init__(self, is_tight):
        self.is_tight = is_tight
        self.pieces = []

    def put(self, piece):
        """Put a piece behind the others."""
        if self.pieces:
            joined = _one_of_both(self.pieces[-1], piece)
            if joined is not None:
                self.pieces[-1] = joined
                return
            if self.is_tight and piece.least < piece.greatest:
                piece = self._put_first(piece)
        self.pieces.append(piece)

    def _put_first(self, piece):
        """Put the first number of a piece into the last one, if it can be told there; return what is left."""
        # No more than one number can: two of them have the forms of the whole piece.
        first = Piece(piece.least, piece.least, piece.course, piece.forms)
        joined = _one_of_both(self.pieces[-1], first)
        if joined is None:
            return piece
        self.pieces[-1] = joined
        return Piece(piece.least + 1, piece.greatest, piece.course, piece.forms)


class Pieces:
    """The pieces of a range, as the courses have them, and as few as they can be."""

    def __init__(self):
        self.plain = Row(False)
        self.fewest = Row(True)

    def add_courses(self, courses):
        """Add the pieces of the courses of the numbers that come next, or raise TooLarge if they are too many."""
        starts = [(least, greatest, at) for at, course in enumerate(courses) for least, greatest in course.domain]
        for least, greatest, at in sorted(starts):
            self._add_interval(courses[at], least, greatest)

    def best(self):
        """Return the list of the pieces, at most as many as there may be cases."""
        if len(self.plain.pieces) <= MOST_CASES:
            return self.plain.pieces
        return self.fewest.pieces

    def _add_interval(self, course, least, greatest):
        tracks = [cut_to(track, [(least, greatest)]) for track in numbers_of(course.state)]
        starts = sorted(set([least] + [segment[0] for track in tracks for segment in track]))
        ends = [start - 1 for start in starts[1:]] + [greatest]
        places = [0] * len(tracks)
        for start, end in zip(starts, ends):
            places = [at + 1 if track[at][1] < start else at for at, track in zip(places, tracks)]
            forms = [track[at][2:] for at, track in zip(places, tracks)]
            self._add(Piece(start, end, course, forms))

    def _add(self, piece):
        self.fewest.put(piece)
        if len(self.fewest.pieces) > MOST_CASES:
            raise TooLarge("cases")
        # These are at most twice as many: one within each of the fewest, and one over the end of each.
        self.plain.put(piece)


def _one_of_both(piece, other):
    """Return the piece that has the numbers of a piece and of the one behind it, or None if they cannot be told so."""
    if not _are_alike(piece.course, other.course):
        return None
    forms = []
    for form, behind in zip(piece.forms, other.forms):
        joined = _form_of_both(form, piece, behind, other)
        if joined is None:
            return None
        forms.append(joined)
    return Piece(piece.least, other.greatest, piece.course, forms)


def _are_alike(course, other):
    """Tell if two courses differ in nothing but numbers; where one has ended and the other has not, more is told."""
    return course == other or course.told == other.told and same_shape(course.state, other.state)


def _form_of_both(form, piece, behind, other):
    """Return the form that is like a form on its piece and like the other one on the piece behind it, or None."""
    first, second = value_at(form, piece.greatest), value_at(behind, other.least)
    # A form with a single number is any form with this value there.
    if piece.least == piece.greatest and other.least == other.greatest:
        slope = second - first
        return (slope, first - slope * piece.least)
    if piece.least == piece.greatest:
        return behind if value_at(behind, piece.greatest) == first else None
    if other.least == other.greatest:
        return form if value_at(form, other.least) == second else None
    return form if form == behind else None
