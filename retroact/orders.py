"""What a desk does for each of its lines."""

from retroact.branches import branch, branch_events
from retroact.errors import ConversionFault, ImpossibleEvent, InvalidLine, InvalidPatch, TextError, TooLarge
from retroact.history import History
from retroact.journal import read_event, write_event
from retroact.machine import inputs_of, is_possible
from retroact.reader import read_program
from retroact.report import branch_report, by_names, changes_report, state_report, told_line
from retroact.words import number_of, write_path

MOST_LINES = 200
MOST_EVENTS = 500


class Refused(Exception):
    """A line is refused, with a reason."""

    def __init__(self, reason):
        super().__init__(f"refused: {reason}")
        self.reason = reason


class Work:
    """What a desk keeps: the lines of its draft, and the history of the program that was loaded, or None."""

    def __init__(self):
        self.draft = []
        self.history = None


def carry_out(work, line):
    """Do what a line says, and return the list of the lines of its answer, or raise Refused."""
    words = line.split(" ")
    word = words[0]
    if word == "text":
        return _add_text(work, line[len("text "):])
    if word not in ORDERS or "" in words:
        raise Refused("word")
    least, most = COUNTS[word]
    if not least <= len(words) <= most:
        raise Refused("count")
    order = ORDERS[word]
    return order(work, words)


def _add_text(work, rest):
    if len(work.draft) >= MOST_LINES:
        raise Refused("full")
    work.draft.append(rest)
    return [f"lines {len(work.draft)}"]


def _drop(work, words):
    work.draft.clear()
    return ["dropped"]


def _load(work, words):
    program = _program_of_draft(work)
    work.history = History(program)
    work.draft.clear()
    return [f"loaded {len(program.actors)}"]


def _take_event(work, words):
    history = _history_of(work)
    try:
        event = read_event(" ".join(words[1:]))
    except InvalidLine:
        raise Refused("event") from None
    many = len(history.events())
    if not is_possible(history.program, history.state_at(many), event):
        raise Refused("impossible")
    if many >= MOST_EVENTS:
        raise Refused("full")
    return [told_line(history.record(event))]


def _list_inputs(work, words):
    history = _history_of(work)
    state = history.state_at(len(history.events()))
    return [f"{write_path(path)} {message} {many}" for path, message, many in inputs_of(history.program, state)]


def _report_state(work, words):
    history = _history_of(work)
    return state_report(history.program, history.state_at(_moment_of(history, words[1])))


def _report_changes(work, words):
    history = _history_of(work)
    first, second = [_moment_of(history, word) for word in words[1:]]
    return changes_report(history.state_at(first), history.state_at(second))


def _list_events(work, words):
    return [write_event(event) for event in _history_of(work).events()]


def _go_back(work, words):
    history = _history_of(work)
    moment = _moment_of(history, words[1])
    work.history = history.cut(moment)
    return [f"at {moment}"]


def _rebase(work, words):
    return _report_branch(work, _branch_by_names(work, words[1]))


def _accept(work, words):
    one = _branch_by_names(work, words[1])
    answer = _report_branch(work, one)
    events = work.history.events()[:one.moment] + branch_events(one)
    history = History(one.patch.program)
    try:
        for event in events:
            history.record(event)
    except ImpossibleEvent:
        raise Refused("impossible") from None
    work.history = history
    work.draft.clear()
    return answer


# For each line but `text` how many words it has, at least and at most.
COUNTS = {
    "drop": (1, 1),
    "load": (1, 1),
    "event": (3, 8),
    "inputs": (1, 1),
    "state": (2, 2),
    "changes": (3, 3),
    "journal": (1, 1),
    "back": (2, 2),
    "rebase": (2, 2),
    "accept": (2, 2),
}

ORDERS = {
    "drop": _drop,
    "load": _load,
    "event": _take_event,
    "inputs": _list_inputs,
    "state": _report_state,
    "changes": _report_changes,
    "journal": _list_events,
    "back": _go_back,
    "rebase": _rebase,
    "accept": _accept,
}


def _history_of(work):
    if work.history is None:
        raise Refused("none")
    return work.history


def _moment_of(history, word):
    """Return the moment of a history that a word is written for."""
    moment = number_of(word)
    if moment is None or not 0 <= moment <= len(history.events()):
        raise Refused("number")
    return moment


def _program_of_draft(work):
    try:
        return read_program("".join([f"{line}\n" for line in work.draft]))
    except TextError as error:
        raise Refused(f"text {error.line} {error.column} {error.reason}") from None
    except TooLarge:
        raise Refused("large") from None


def _report_branch(work, one):
    return branch_report(work.history.program, work.history.events(), one)


def _branch_by_names(work, word):
    """Return the branch at the moment of a word, with the patch by names to the program of the draft."""
    history = _history_of(work)
    moment = _moment_of(history, word)
    new = _program_of_draft(work)
    try:
        return branch(history.program, history.events(), moment, by_names(history.program, new))
    except InvalidPatch:
        raise Refused("patch") from None
    except ConversionFault:
        raise Refused("patch") from None
