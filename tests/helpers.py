"""What several tests need: short forms of expressions and programs, and the errors of calls."""

import copy

from retroact.errors import Fault, TextError, UnknownEffect
from retroact.program import Actor, Program


def num(n):
    return ("number", n)


def var(name):
    return ("name", name)


def fault_of(call, *arguments):
    """Return the reason of the Fault that a call raises, or None."""
    try:
        call(*arguments)
    except Fault as fault:
        return fault.reason
    return None


def text_error(call, *arguments):
    """Return (line, column, reason) of the TextError that a call raises, or None."""
    try:
        call(*arguments)
    except TextError as error:
        return (error.line, error.column, error.reason)
    return None


def name_unknown(function, *arguments):
    """Return the name of the UnknownEffect that a call raises, or None."""
    try:
        function(*arguments)
    except UnknownEffect as error:
        return error.name
    return None


def program_of(body, parameters=(), states=(), more=(), effects=()):
    """Return a program whose main actor has one handler `go`; `more` are further actors."""
    main = Actor("main", [], list(states), [("go", list(parameters), body)])
    return Program(list(effects), [main] + list(more))


def frozen(thing):
    """Return a deep copy, to compare with what a call might have changed."""
    return copy.deepcopy(thing)


def attributes(thing):
    """Return all attributes of an object, and of the objects in its lists and dicts, for comparisons."""
    if isinstance(thing, (list, tuple)):
        return [attributes(part) for part in thing]
    if isinstance(thing, dict):
        return {key: attributes(thing[key]) for key in thing}
    if hasattr(thing, "__dict__"):
        return attributes(vars(thing))
    return thing
