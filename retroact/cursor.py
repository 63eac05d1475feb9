"""The tokens of a line of a program's text, read from left to right."""

from retroact.errors import TextError
from retroact.lexer import tokens
from retroact.limits import MOST_OPEN
from retroact.names import is_name


class Cursor:
    """Reads the tokens of a line; every error is raised at the token in question."""

    def __init__(self, line, number):
        self.number = number
        self.width = len(line)
        self.row = tokens(line, number)
        self.at = 0
        self.nested = 0

    def at_end(self):
        """Tell if no token is left."""
        return self.at == len(self.row)

    def due_kind(self):
        """Return the kind of the token that is due, or an empty string."""
        return "" if self.at_end() else self.row[self.at][0]

    def due_text(self):
        """Return the text of the token that is due, or an empty string."""
        return "" if self.at_end() else self.row[self.at][1]

    def due_column(self):
        """Return the column of the token that is due, or the one behind the line."""
        return self.width + 1 if self.at_end() else self.row[self.at][2]

    def column_of(self, index):
        """Return the column of the token with the index."""
        return self.row[index][2]

    def fail(self, reason, column):
        """Raise the error for this line."""
        raise TextError(self.number, column, reason)

    def skips(self, text):
        """Tell if the token that is due has the text; if so, it is read."""
        if self.due_text() != text:
            return False
        self.at += 1
        return True

    def expect(self, text):
        """Read the token with the text."""
        if not self.skips(text):
            self.fail("expected", self.due_column())

    def take_any_name(self):
        """Read a name, and return it."""
        name = self._due_name()
        self.at += 1
        return name

    def take_known_name(self, known):
        """Read a name that is one of those that are known."""
        name = self._due_name()
        if name not in known:
            self.fail("unknown", self.due_column())
        self.at += 1
        return name

    def take_new_name(self, taken, reason):
        """Read a name that is none of those that are taken; otherwise it is an error with the reason."""
        name = self._due_name()
        if name in taken:
            self.fail(reason, self.due_column())
        self.at += 1
        return name

    def take_number(self):
        """Read a number, and return it."""
        if self.due_kind() != "number":
            self.fail("expected", self.due_column())
        digits = self.due_text()
        self.at += 1
        return int(digits)

    def close(self):
        """See to it that the line is over."""
        if not self.at_end():
            self.fail("expected", self.due_column())

    def begin_open(self):
        """Count a parenthesis, a `not` or a sign as open: it is the token that was read last."""
        self.nested += 1
        if self.nested > MOST_OPEN:
            self.fail("deep", self.column_of(self.at - 1))

    def end_open(self):
        """Count one less as open."""
        self.nested -= 1

    def check_limit(self, holds):
        """See to it that the limits hold with this line."""
        if not holds:
            self.fail("limit", self.column_of(0))

    def _due_name(self):
        name = self.due_text()
        if not is_name(name):
            self.fail("expected", self.due_column())
        return name
