"""Programs that are made by a fixed row of random numbers, all of them let by."""

import random

from retroact.machine import apply, first_state, inputs_of
from retroact.program import Actor, Program

WORDS = ("plus", "minus", "times", "over", "rest", "less", "atmost", "same", "and", "or")
NAMES = ("a", "bee", "sea", "dusk", "east", "abcdefghijkl")


class Maker:
    """Makes random parts of programs."""

    def __init__(self, seed):
        self.dice = random.Random(seed)

    def expression(self, known, depth=3):
        roll = self.dice.random()
        if depth == 0 or roll < 0.25:
            if known and self.dice.random() < 0.6:
                return ("name", self.dice.choice(known))
            return ("number", self.dice.choice((0, 1, 2, 3, -1, -7, 20, 1000000000, -1000000000)))
        if roll < 0.4:
            return (self.dice.choice(("negative", "not")), self.expression(known, depth - 1))
        word = self.dice.choice(WORDS)
        return (word, self.expression(known, depth - 1), self.expression(known, depth - 1))

    def names(self, most):
        return self.dice.sample(NAMES, self.dice.randint(0, most))

    def expressions(self, known, many):
        return [self.expression(known, 2) for _ in range(many)]

    def program(self):
        effects = [(name, self.dice.randint(0, 4)) for name in self.names(3)]
        kinds = [(name, [] if at == 0 else self.names(3))
                 for at, name in enumerate(self.dice.sample(("main", "helper", "other", "last"), self.dice.randint(1, 4)))]
        return Program(effects, [self.actor(name, parameters, effects, kinds) for name, parameters in kinds])

    def actor(self, name, parameters, effects, kinds):
        states, known = [], list(parameters)
        for state in ("n", "m", "total")[:self.dice.randint(0, 3)]:
            states.append((state, self.expression(known)))
            known.append(state)
        names = [state for state, _ in states]
        handlers = [self.handler(message, names, effects, kinds)
                    for message in ("go", "add", "sent", "back")[:self.dice.randint(0, 4)]]
        return Actor(name, parameters, states, handlers)

    def handler(self, message, states, effects, kinds):
        parameters = self.names(2)
        known = parameters + [name for name in states if name not in parameters]
        free = [name for name in NAMES + tuple(states) if name not in parameters]
        self.left = 20
        return (message, parameters, self.body(known, free, states, effects, kinds, 1, 0))

    def body(self, known, free, states, effects, kinds, depth, repeats):
        body = []
        for _ in range(self.dice.randint(0, 5)):
            if self.left > 0:
                self.left -= 1
                body.append(self.statement(known, free, states, effects, kinds, depth, repeats))
        return body

    def statement(self, known, free, states, effects, kinds, depth, repeats):
        word = self.dice.choice(("set", "set", "if", "repeat", "send", "send", "spawn", "call", "call", "stop", "fail"))
        inner = (known, free, states, effects, kinds, depth + 1)
        if word == "if" and depth < 5:
            first = self.expression(known)
            return ("if", first, self.body(*inner, repeats), self.body(*inner, repeats))
        if word == "repeat" and depth < 5 and repeats < 2:
            return ("repeat", self.turns(known), self.body(*inner, repeats + 1))
        if word == "send":
            target = self.dice.choice((("parent",), ("self",), ("child", self.expression(known, 1))))
            return ("send", target, self.dice.choice(("go", "add", "sent")), self.expressions(known, self.dice.randint(0, 3)))
        places = [name for name in free if name not in states]
        if word == "spawn" and places:
            kind, parameters = self.dice.choice(kinds)
            name = self.dice.choice(places)
            arguments = self.expressions(known, len(parameters))
            known.append(name)
            return ("spawn", kind, arguments, name)
        if word == "call" and effects:
            effect, count = self.dice.choice(effects)
            return ("call", effect, self.expressions(known, count), self.dice.choice((None, "back", "sent")))
        if word in ("stop", "fail") and self.dice.random() < 0.3:
            return (word,)
        name = self.dice.choice(free)
        statement = ("set", name, self.expression(known))
        known.append(name)
        return statement

    def turns(self, known):
        if self.dice.random() < 0.8:
            return ("number", self.dice.randint(0, 4))
        return self.expression(known, 1)

    def event(self, state, inputs):
        """Return an event that is possible in a state, or None."""
        choices = []
        if inputs:
            path, message, count = self.dice.choice(inputs)
            choices.append(("input", path, message, tuple([self.dice.randint(-3, 5) for _ in range(count)])))
        if state.waiting:
            choices += [("deliver", self.dice.randrange(len(state.waiting)))] * 3
        if state.pending:
            choices.append(("answer", self.dice.randrange(len(state.pending)), self.dice.randint(-2, 9)))
        return self.dice.choice(choices) if choices else None

    def events(self, program, many):
        """Return a list of at most so many events that are possible one after the other."""
        events, state = [], first_state(program)
        while len(events) < many:
            event = self.event(state, inputs_of(program, state))
            if event is None:
                break
            state, _ = apply(program, state, event, len(events))
            events.append(event)
        return events


def programs(many):
    """Return a list of programs that are let by, the same ones at each call."""
    return [Maker(seed).program() for seed in range(many)]


def histories(many, length):
    """Return a list of pairs of a program and a list of events of it, at least one, the same ones at each call."""
    found = []
    for seed in range(many):
        maker = Maker(seed)
        program = maker.program()
        events = maker.events(program, length)
        if events:
            found.append((program, events))
    return found
