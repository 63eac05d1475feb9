"""The desk: a program, its history and drafts of other programs, worked on by lines."""

from retroact.errors import InvalidLine
from retroact.orders import Refused, Work, carry_out

LONGEST_LINE = 200


class Desk:
    """Obeys lines, and keeps those that it did not refuse."""

    def __init__(self):
        self._work = Work()
        self._obeyed = []

    def obey(self, line):
        """Return the list of the lines of the answer to a line, or raise InvalidLine."""
        if len(line) > LONGEST_LINE or not all([" " <= character <= "~" for character in line]):
            raise InvalidLine(0)
        try:
            answer = carry_out(self._work, line)
        except Refused as refusal:
            return [f"refused {refusal.reason}"]
        self._obeyed.append(line)
        return answer

    def lines(self):
        """Return the list of all lines that were obeyed."""
        return list(self._obeyed)

    def history(self):
        """Return the desk's history, or None if no program was loaded."""
        history = self._work.history
        # What is recorded in a copy is no line of the desk, and changes nothing here.
        return None if history is None else history.cut(len(history.events()))


def answers_of(lines):
    """Return the list of the answers of a new desk to lines, or raise InvalidLine."""
    desk = Desk()
    return [desk.obey(line) for line in lines]
