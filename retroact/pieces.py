"""What events make of an unknown argument, piece by piece of its range."""

from retroact.errors import TooLarge
from retroact.machine import apply_with, first_state, is_possible
from retroact.narrowing import Narrowing
from retroact.shapes import numbers_of, same_shape, with_numbers
from retroact.unknown import value_at

MOST_CASES = 400
# What differs in numbers alone may become one again by later events: so more pieces than cases are kept at first,
# and still more are looked at for one event.
MOST_PIECES = 1000
MOST_LOOKS = 4000


class Piece:
    """An interval of the range, and what the events so far have told and made for each of its numbers."""

    def __init__(self, least, greatest, told, state, is_ended):
        self.least = least
        self.greatest = greatest
        self.told = told
        self.state = state
        # True if an event was not possible.
        self.is_ended = is_ended


class Row:
    """Pieces that part the range as far as they go; two neighbours that can be told as one are one piece."""

    def __init__(self):
        self.pieces = []
        self.looks = 0
        # How often neighbours differ in something else than numbers.
        self.breaks = 0

    def put(self, piece):
        """Put a piece behind the others, or raise TooLarge if there are too many."""
        self.looks += 1
        whole = None
        if self.pieces:
            last = self.pieces[-1]
            if _are_alike(last, piece):
                whole = _one_of_both(last, piece)
            else:
                self.breaks += 1
        if whole is None:
            self.pieces.append(piece)
        else:
            self.pieces[-1] = whole
        if self.looks > MOST_LOOKS or len(self.pieces) > MOST_PIECES or self.breaks >= MOST_CASES:
            raise TooLarge("cases")


def pieces_behind(program, events, unknown):
    """Return the list of the pieces of the range behind the replaced events, or raise TooLarge."""
    pieces = [Piece(unknown.least, unknown.greatest, [], _with_forms(first_state(program)), False)]
    for at, event in enumerate(events):
        index = unknown.index if at == unknown.moment else None
        # For values it is the same whether an event is possible: each of them may stand for the unknown.
        plain = _replaced(event, index, unknown.least)
        row = Row()
        for piece in pieces:
            if piece.is_ended or not is_possible(program, piece.state, plain):
                row.put(Piece(piece.least, piece.greatest, piece.told, piece.state, True))
            else:
                _apply_to(program, piece, _event_of_forms(plain, index), at, row)
        pieces = row.pieces
    return pieces


def _apply_to(program, piece, event, moment, row):
    """Put into the row what an event makes of a piece."""
    least = piece.least
    while least <= piece.greatest:
        narrowing = Narrowing(least, piece.greatest)
        state, told = apply_with(program, piece.state, event, moment, narrowing)
        # An actor that fails at its birth has plain numbers.
        if len(state.beings) > len(piece.state.beings):
            state = _with_forms(state)
        row.put(Piece(least, narrowing.greatest, [*piece.told, told], state, False))
        least = narrowing.greatest + 1


def _replaced(event, index, number):
    """Return the event with the number in the place of the argument with the index, if there is an index."""
    if index is None:
        return event
    word, path, message, arguments = event
    return (word, path, message, arguments[:index] + (number,) + arguments[index + 1:])


def _event_of_forms(event, index):
    """Return the event with forms in the place of its values; the argument with the index is the unknown."""
    if event[0] == "deliver":
        return event
    if event[0] == "answer":
        return ("answer", event[1], (0, event[2]))
    word, path, message, arguments = event
    return (word, path, message, tuple([(1, 0) if k == index else (0, n) for k, n in enumerate(arguments)]))


def _with_forms(state):
    """Return the state with forms in the place of plain numbers."""
    forms = [number if isinstance(number, tuple) else (0, number) for number in numbers_of(state)]
    return with_numbers(state, forms)


def _are_alike(piece, other):
    """Tell if two pieces differ in nothing but numbers; where one has ended and the other one has not, more is told."""
    return piece.told == other.told and same_shape(piece.state, other.state)


def _one_of_both(piece, other):
    """Return the piece that has the numbers of a piece and of the one behind it, or None if their forms differ."""
    forms = []
    for form, behind in zip(numbers_of(piece.state), numbers_of(other.state)):
        whole = _form_of_both(form, piece, behind, other)
        if whole is None:
            return None
        forms.append(whole)
    return Piece(piece.least, other.greatest, piece.told, with_numbers(piece.state, forms), piece.is_ended)


def _form_of_both(form, piece, behind, other):
    """Return the form that is like a form on its piece and like the other one on the piece behind it, or None."""
    first, second = value_at(form, piece.greatest), value_at(behind, other.least)
    # A form with a single number is any form with this value there.
    if piece.least == piece.greatest and other.least == other.greatest:
        slope = second - first
        return (slope, first - slope * piece.least)
    if piece.least == piece.greatest:
        return behind if value_at(behind, piece.greatest) == first else None
    if other.least == other.greatest:
        return form if value_at(form, other.least) == second else None
    return form if form == behind else None
