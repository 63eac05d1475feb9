"""The actors and handlers of a program, by their names."""


def actor_of(program, kind):
    """Return the actor of a program with the name, or None if it has no such actor."""
    for actor in program.actors:
        if actor.name == kind:
            return actor
    return None


def handler_of(program, kind, message, count):
    """Return the handler of a kind of the program for a message with so many arguments, or None."""
    for handler in actor_of(program, kind).handlers:
        if handler[0] == message and len(handler[1]) == count:
            return handler
    return None
