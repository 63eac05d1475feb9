"""Programs and their actors, and when a program is let by."""

from retroact.checks import is_expression_let_by, is_handler_let_by
from retroact.limits import MOST_ACTORS, MOST_ARGUMENTS, MOST_EFFECTS, MOST_HANDLERS, MOST_PARAMETERS, MOST_STATES
from retroact.names import are_names


class Actor:
    """A kind of actor: its parameters, states and handlers."""

    def __init__(self, name, parameters, states, handlers):
        self.name = name
        self.parameters = list(parameters)
        self.states = list(states)
        self.handlers = list(handlers)


class Program:
    """The effects and the actors of a program, the main actor first."""

    def __init__(self, effects, actors):
        self.effects = list(effects)
        self.actors = list(actors)


def same_program(program, other):
    """Tell if all effects and all attributes of all actors are equal."""
    if program.effects != other.effects:
        return False
    return [_attributes(actor) for actor in program.actors] == [_attributes(actor) for actor in other.actors]


def is_let_by(program):
    """Tell if a program keeps all conditions and limits of programs."""
    if not _are_effects_let_by(program.effects):
        return False
    if not 1 <= len(program.actors) <= MOST_ACTORS or program.actors[0].parameters:
        return False
    if not are_names([actor.name for actor in program.actors]):
        return False
    effects = {name: count for name, count in program.effects}
    kinds = {actor.name: len(actor.parameters) for actor in program.actors}
    return all([_is_actor_let_by(actor, effects, kinds) for actor in program.actors])


def _attributes(actor):
    return (actor.name, actor.parameters, actor.states, actor.handlers)


def _are_effects_let_by(effects):
    if len(effects) > MOST_EFFECTS or not are_names([name for name, count in effects]):
        return False
    return all([0 <= count <= MOST_ARGUMENTS for name, count in effects])


def _is_actor_let_by(actor, effects, kinds):
    if len(actor.parameters) > MOST_PARAMETERS or len(actor.states) > MOST_STATES:
        return False
    states = [name for name, expression in actor.states]
    if len(actor.handlers) > MOST_HANDLERS or not are_names(actor.parameters + states):
        return False
    if not are_names([handler[0] for handler in actor.handlers]):
        return False
    if not _are_states_let_by(actor):
        return False
    return all([is_handler_let_by(handler, states, effects, kinds) for handler in actor.handlers])


def _are_states_let_by(actor):
    known = list(actor.parameters)
    for name, expression in actor.states:
        if not is_expression_let_by(expression, known):
            return False
        known.append(name)
    return True
