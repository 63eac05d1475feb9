"""Events as lines, and journals."""

from retroact.errors import InvalidLine
from retroact.history import History
from retroact.names import is_name
from retroact.words import complete_lines, numbers_of, path_of, write_path

# How many words a line has that consists of its first word and numbers.
WORDS = {"deliver": 2, "answer": 3}


def write_event(event):
    """Return the line of an event."""
    if event[0] == "input":
        _, path, message, arguments = event
        words = ["input", write_path(path), message] + [str(argument) for argument in arguments]
    else:
        words = [str(part) for part in event]
    return " ".join(words)


def read_event(line):
    """Return the event of a line, or raise InvalidLine."""
    words = line.split(" ")
    event = _read_input(words) if words[0] == "input" else _read_numbers(words)
    if event is None:
        raise InvalidLine(0)
    return event


def write_journal(events):
    """Return the text of the lines of events."""
    return "".join([f"{write_event(event)}\n" for event in events])


def read_journal(text):
    """Return the list of the events of the complete lines, or raise InvalidLine."""
    events = []
    for number, line in enumerate(complete_lines(text), 1):
        try:
            events.append(read_event(line))
        except InvalidLine:
            raise InvalidLine(number) from None
    return events


def replay(program, text):
    """Return the history with the events of a journal, or raise InvalidLine or ImpossibleEvent."""
    history = History(program)
    for event in read_journal(text):
        history.record(event)
    return history


def _read_input(words):
    """Return the input of the words of a line, or None."""
    if len(words) < 3 or not is_name(words[2]):
        return None
    path = path_of(words[1])
    arguments = numbers_of(words[3:])
    if path is None or arguments is None:
        return None
    return ("input", path, words[2], arguments)


def _read_numbers(words):
    """Return the delivery or the answer of the words of a line, or None."""
    numbers = numbers_of(words[1:])
    if len(words) != WORDS.get(words[0]) or numbers is None:
        return None
    return (words[0], *numbers)
