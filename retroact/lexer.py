"""The tokens of a line of a program's text."""

from retroact.errors import TextError
from retroact.names import LONGEST_NAME, SMALL_LETTERS
from retroact.values import GREATEST_VALUE

DIGITS = "0123456789"
SIGNS = "<=>+-*/(),"
LONGEST_NUMBER = 10


def tokens(line, number):
    """Return the tokens (kind, text, column) of the line with this number, or raise TextError."""
    found = []
    at = 0
    while at < len(line):
        if line[at] == " ":
            at += 1
        else:
            kind, text = _token_at(line, at, number)
            found.append((kind, text, at + 1))
            at += len(text)
    return found


def _token_at(line, at, number):
    if line[at] in SMALL_LETTERS:
        text = _row_at(line, at, SMALL_LETTERS)
        if len(text) > LONGEST_NAME:
            raise TextError(number, at + 1, "word")
        return "word", text
    if line[at] in DIGITS:
        text = _row_at(line, at, DIGITS)
        if not _is_number(text):
            raise TextError(number, at + 1, "number")
        return "number", text
    if line[at:at + 2] in ("<=", ">="):
        return "sign", line[at:at + 2]
    if line[at] in SIGNS:
        return "sign", line[at]
    raise TextError(number, at + 1, "character")


def _row_at(line, at, characters):
    end = at
    while end < len(line) and line[end] in characters:
        end += 1
    return line[at:end]


def _is_number(digits):
    # The length is looked at first: Python refuses to read very long rows of digits.
    if len(digits) > LONGEST_NUMBER or (digits[0] == "0" and digits != "0"):
        return False
    return int(digits) <= GREATEST_VALUE
