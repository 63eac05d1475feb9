"""Runs of handlers, and their outcomes."""

from retroact.errors import Fault
from retroact.parts import name_given, walk
from retroact.values import evaluate

MOST_DEEDS = 60
MOST_TURNS = 20


class Outcome:
    """What came of a run: its kind, the states behind it, its deeds, and the reason of a fault."""

    def __init__(self, kind, states, deeds, reason=None):
        self.kind = kind
        self.states = dict(states)
        self.deeds = list(deeds)
        self.reason = reason


class Reckoner:
    """Reckons with values."""

    def reckon(self, expression, names):
        """Return the value of an expression, or raise Fault."""
        return evaluate(expression, names)

    def is_true(self, number):
        """Tell if a value is true."""
        return number != 0

    def whole(self, number):
        """Return a value as an integer."""
        return number

    def told(self, integer):
        """Return an integer as a value."""
        return integer


class Run:
    """A run on its way: the values of its names, and its deeds so far."""

    def __init__(self, names, spawned, reckoner):
        self.names = names
        self.spawned = spawned
        self.reckoner = reckoner
        self.deeds = []

    def reckon_one(self, expression):
        """Return what the reckoner makes of an expression."""
        return self.reckoner.reckon(expression, self.names)

    def reckon_all(self, expressions):
        """Return the tuple of what the reckoner makes of the expressions."""
        return tuple([self.reckon_one(expression) for expression in expressions])

    def add_deed(self, deed):
        """Do a deed, if the run may do one more."""
        if len(self.deeds) >= MOST_DEEDS:
            raise Fault("deeds")
        self.deeds.append(deed)


def same_outcome(outcome, other):
    """Tell if all attributes of two outcomes are equal."""
    if outcome.kind != other.kind or outcome.reason != other.reason:
        return False
    return outcome.states == other.states and outcome.deeds == other.deeds


def locals_of(body, known):
    """Return the ascending list of the names behind `set` and `spawn` that are not known."""
    found = {}
    for statement, _, _ in walk(body):
        name = name_given(statement)
        if name is not None and name not in known:
            found[name] = True
    return sorted(found)


def run_handler(handler, states, spawned, arguments):
    """Return the outcome of a run of a handler with values."""
    return run_with(handler, states, spawned, arguments, Reckoner())


def run_with(handler, states, spawned, arguments, reckoner):
    """Return the outcome of a run of a handler with the numbers of a reckoner."""
    _, parameters, body = handler
    try:
        names = _first_names(body, states, dict(zip(parameters, arguments)), reckoner)
        run = Run(names, spawned, reckoner)
        is_stopped = _run_list(run, body)
    except Fault as fault:
        return Outcome("failed", states, [], fault.reason)
    # A state that a parameter hides was never reached by its name.
    after = {name: states[name] if name in parameters else names[name] for name in states}
    return Outcome("stopped" if is_stopped else "done", after, run.deeds)


def begin_with(actor, arguments, reckoner):
    """Return the dict of the states that an actor is born with, or None if there is a fault."""
    names = dict(zip(actor.parameters, arguments))
    begun = {}
    try:
        for name, expression in actor.states:
            begun[name] = reckoner.reckon(expression, names)
            names[name] = begun[name]
    except Fault:
        return None
    return begun


def _first_names(body, states, given, reckoner):
    """Return the values of all names of a handler at the beginning of its run."""
    names = {name: reckoner.told(0) for name in locals_of(body, list(states) + list(given))}
    names.update(states)
    names.update(given)
    return names


def _run_list(run, body):
    """Run statements in order, and tell if the run came to `stop`."""
    for statement in body:
        if _run_statement(run, statement):
            return True
    return False


def _run_statement(run, statement):
    """Run a statement, and tell if the run came to `stop`."""
    word = statement[0]
    if word == "if":
        is_true = run.reckoner.is_true(run.reckon_one(statement[1]))
        return _run_list(run, statement[2] if is_true else statement[3])
    if word == "repeat":
        return _run_repeat(run, statement)
    if word == "fail":
        raise Fault("fail")
    if word == "set":
        run.names[statement[1]] = run.reckon_one(statement[2])
    elif word == "send":
        _run_send(run, statement)
    elif word == "spawn":
        _run_spawn(run, statement)
    elif word == "call":
        run.add_deed(("call", statement[1], run.reckon_all(statement[2]), statement[3]))
    return word == "stop"


def _run_repeat(run, statement):
    turns = run.reckoner.whole(run.reckon_one(statement[1]))
    if not 0 <= turns <= MOST_TURNS:
        raise Fault("count")
    for _ in range(turns):
        if _run_list(run, statement[2]):
            return True
    return False


def _run_send(run, statement):
    _, target, message, arguments = statement
    if target[0] == "child":
        target = ("child", run.reckoner.whole(run.reckon_one(target[1])))
    run.add_deed(("send", target, message, run.reckon_all(arguments)))


def _run_spawn(run, statement):
    _, kind, arguments, name = statement
    run.add_deed(("spawn", kind, run.reckon_all(arguments)))
    run.names[name] = run.reckoner.told(run.spawned)
    run.spawned += 1
