"""How the text of a program is read."""

from retroact.commands import READERS, read_statement
from retroact.cursor import Cursor
from retroact.draft import Draft
from retroact.errors import TextError, TooLarge
from retroact.forms import DECLARATIONS
from retroact.limits import MOST_CHARACTERS
from retroact.program import Program


def read_program(text):
    """Return the program of a text, or raise TooLarge or TextError."""
    if len(text) > MOST_CHARACTERS:
        raise TooLarge("text")
    draft = Draft()
    lines = _lines_of(text)
    for at, line in enumerate(lines):
        _read_line(draft, Cursor(line, at + 1))
    if draft.actor is not None or not draft.kinds:
        raise TextError(len(lines) + 1, 1, "end")
    _check_spawns(draft)
    return Program(list(draft.effects.items()), list(draft.kinds.values()))


def _lines_of(text):
    lines = text.split("\n")
    # Behind the last newline no line begins, and an empty text has no line at all.
    if lines[-1] == "":
        lines.pop()
    return lines


def _read_line(draft, cursor):
    if cursor.at_end():
        return
    word = cursor.due_text()
    if not _may_stand(draft, word):
        cursor.fail("line", cursor.column_of(0))
    cursor.expect(word)
    if word in READERS:
        read_statement(draft, cursor, word)
    else:
        read = DECLARATIONS[word]
        read(draft, cursor)


def _may_stand(draft, word):
    """Tell if a line that begins with the word can stand next."""
    if draft.scope is not None:
        return word in READERS or word == "end" or (word == "else" and draft.scope.words[-1] == "if")
    if draft.actor is not None:
        return word in ("on", "end") or (word == "state" and not draft.actor.handlers)
    return word == "actor" or (word == "effect" and not draft.kinds)


def _check_spawns(draft):
    for kind, count, line, column in draft.spawns:
        if kind not in draft.kinds:
            raise TextError(line, column, "unknown")
        if len(draft.kinds[kind].parameters) != count:
            raise TextError(line, column, "count")
