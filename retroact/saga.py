"""Sagas, which carry out plans step by step, and the outsides that they are carried out against."""

from retroact.errors import InvalidJournal
from retroact.words import complete_lines


class Outside:
    """The calls in force, the deeds that were done, and the words of what will be lost on the way."""

    def __init__(self, calls, *, losses=()):
        self._calls = list(calls)
        self._losses = list(losses)
        self._sendings = 0
        self._numbers = []

    def send(self, number, deed):
        """Take a deed, and tell if its answer comes."""
        loss = "no"
        if self._sendings < len(self._losses):
            loss = self._losses[self._sendings]
        self._sendings += 1
        if loss == "there":
            return False
        if number not in self._numbers:
            self._numbers.append(number)
            self._carry_out(deed)
        return loss == "no"

    def in_force(self):
        """Return the ascending list of the calls in force."""
        return sorted(self._calls)

    def done(self):
        """Return the list of the numbers of the deeds, in the order in which they were done."""
        return list(self._numbers)

    def _carry_out(self, deed):
        if deed[0] != "do" and deed[1] in self._calls:
            self._calls.remove(deed[1])
        if deed[0] != "undo":
            self._calls.append(deed[-1])


class Saga:
    """A plan that is carried out, with its journal."""

    def __init__(self, there, here, deeds, *, text=""):
        self._deeds = [_deed_of(there, here, deed) for deed in deeds]
        self._noted = len(complete_lines(text))
        self._is_answered = False
        if self._noted > len(self._deeds) or complete_lines(text) != complete_lines(self.text()):
            raise InvalidJournal()

    def step(self, outside):
        """Do a step, and return what was done: ("sent", number, answered), ("noted", number) or ("over",)."""
        number = self._noted
        if self.is_over:
            return ("over",)
        if self._is_answered:
            self._noted += 1
            self._is_answered = False
            return ("noted", number)
        self._is_answered = outside.send(number, self._deeds[number])
        return ("sent", number, self._is_answered)

    def text(self):
        """Return the journal."""
        return "".join([f"done {number}\n" for number in range(self._noted)])

    @property
    def is_over(self):
        """True if all deeds are noted."""
        return self._noted == len(self._deeds)


def _deed_of(there, here, deed):
    """Return what is sent for a deed of a plan: its word, and calls in the place of their indexes."""
    if deed[0] == "undo":
        return ("undo", there[deed[1]])
    if deed[0] == "do":
        return ("do", here[deed[1]])
    return ("change", there[deed[1]], here[deed[2]])
