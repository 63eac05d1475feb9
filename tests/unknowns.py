"""What the tests of unknown arguments need: plain runs for single numbers, and random programs whose ways part."""

import random

from retroact.machine import apply, first_state, inputs_of, is_possible
from retroact.program import Actor, Program
from retroact.shapes import numbers_of, shape_of

NUMBERS = (0, 1, 2, 3, 5, -1, -4, 7, 10, 20, 50, 100, -30, 999999999, 1000000000)
WIDE = (-1000000000, 1000000000)


def replaced(events, unknown, u):
    """Return the events with a number in the place of the unknown argument."""
    word, path, message, arguments = events[unknown.moment]
    arguments = list(arguments)
    arguments[unknown.index] = u
    return events[:unknown.moment] + [(word, path, message, tuple(arguments))] + events[unknown.moment + 1:]


def plain_run(program, events, unknown, u):
    """Return (done, told, state) for one number, with the plain machine."""
    state, told = first_state(program), []
    for moment, event in enumerate(replaced(events, unknown, u)):
        if not is_possible(program, state, event):
            break
        state, row = apply(program, state, event, moment)
        told.append(row)
    return len(told), told, state


def fewest_cases(program, events, unknown):
    """Return how many cases there are at the least, by a plain run for each number."""
    rows = []
    for u in range(unknown.least, unknown.greatest + 1):
        _, told, state = plain_run(program, events, unknown, u)
        rows.append(((told, shape_of(state)), numbers_of(state)))
    many, begin = 0, 0
    while begin < len(rows):
        many, end = many + 1, begin + 1
        steps = None
        while end < len(rows) and rows[end][0] == rows[begin][0]:
            behind = [b - a for a, b in zip(rows[end - 1][1], rows[end][1])]
            if steps not in (None, behind):
                break
            steps, end = behind, end + 1
        begin = end
    return many


def balanced(word, parts):
    """Return the expression that joins expressions by a word, nested as little as can be."""
    if len(parts) == 1:
        return parts[0]
    middle = (len(parts) + 1) // 2
    return (word, balanced(word, parts[:middle]), balanced(word, parts[middle:]))


def never(name, least, greatest):
    """Return an expression that compares a name with known numbers, and is 0 for each value from least to greatest."""
    if least == greatest:
        return ("same", ("plus", name, name), ("number", 2 * least + 1))
    middle = (least + greatest) // 2
    low = ("and", ("less", name, ("number", middle + 1)), never(name, least, middle))
    return ("or", low, ("and", ("less", ("number", middle), name), never(name, middle + 1, greatest)))


def steps(name, length, many):
    """Return an expression that is less by 1 for each multiple of the length, up to so many of them, not above a name."""
    return balanced("plus", [("less", name, ("number", length * k)) for k in range(1, many + 1)])


class Parter:
    """Makes random programs of two kinds, in which much depends on the arguments of messages.

    They only add, subtract, compare and multiply by known numbers, unless they are hard.
    """

    def __init__(self, seed, is_hard):
        self.dice = random.Random(seed)
        self.is_hard = is_hard

    def expression(self, known, depth):
        roll = self.dice.random()
        if depth == 0 or roll < 0.2:
            is_name = known and self.dice.random() < 0.7
            return ("name", self.dice.choice(known)) if is_name else ("number", self.dice.choice(NUMBERS))
        first = self.expression(known, depth - 1)
        if roll < 0.3:
            return (self.dice.choice(("negative", "not")), first)
        words = ["plus", "minus", "plus", "minus", "less", "atmost", "same", "and", "or", "times"]
        word = self.dice.choice(words + ["over", "rest", "times"] * self.is_hard)
        if word == "times" and not self.is_hard:
            return (word, first, ("number", self.dice.choice((2, -1, 3, 0, 7))))
        return (word, first, self.expression(known, depth - 1))

    def body(self, known, depth):
        return [self.statement(known, depth) for _ in range(self.dice.randint(1, 4))]

    def statement(self, known, depth):
        roll = self.dice.random()
        part = [self.expression(known, 1)]
        if 0.35 <= roll < 0.6 and depth < 3:
            return ("if", self.expression(known, 2), self.body(known, depth + 1), self.body(known, depth + 1))
        if 0.6 <= roll < 0.68 and depth < 2:
            is_known = not self.is_hard or self.dice.random() < 0.5
            return ("repeat", ("number", self.dice.randint(0, 5)) if is_known else part[0], self.body(known, depth + 1))
        if 0.68 <= roll < 0.76:
            return ("send", ("self",), self.dice.choice(("go", "two")), part)
        if 0.76 <= roll < 0.82:
            return ("send", ("child", self.expression(known, 1) if self.is_hard else ("number", 0)), "go", part)
        if 0.82 <= roll < 0.88:
            return ("spawn", "kid", part, "c")
        if 0.88 <= roll < 0.95:
            return ("call", "pay", part, self.dice.choice((None, "two")))
        if roll >= 0.95:
            return self.dice.choice((("stop",), ("fail",)))
        return ("set", self.dice.choice(("n", "m", "t")), self.expression(known, 2))

    def handlers(self):
        known = ["n", "m", "t", "x"]
        return [(message, ["x"], [("set", "t", ("number", 0))] + self.body(known, 1)) for message in ("go", "two")]

    def program(self):
        main = Actor("main", [], [("n", ("number", self.dice.randint(-5, 20))), ("m", ("number", 3))], self.handlers())
        kid = Actor("kid", ["p"], [("n", self.expression(["p"], 2)), ("m", self.expression(["p", "n"], 1))], self.handlers())
        return Program([("pay", 1)], [main, kid])

    def events(self, program, many):
        events = [("input", (), "go", (self.dice.randint(-5, 20),))]
        state, _ = apply(program, first_state(program), events[0], 0)
        while len(events) < many:
            choices = [("deliver", self.dice.randrange(min(3, len(state.waiting))))] * 3 if state.waiting else []
            if inputs_of(program, state):
                path, message, _ = self.dice.choice(inputs_of(program, state))
                choices.append(("input", path, message, (self.dice.randint(-5, 30),)))
            if state.pending:
                choices.append(("answer", self.dice.randrange(len(state.pending)), self.dice.randint(-5, 30)))
            if not choices:
                break
            events.append(self.dice.choice(choices))
            state, _ = apply(program, state, events[-1], len(events) - 1)
        if self.dice.random() < 0.2:
            events.append(self.dice.choice((("deliver", 0), ("deliver", 3), ("answer", 1, 5))))
        return events

    def range(self):
        least = self.dice.randint(-60, 20)
        return self.dice.choice(((least, least), (least, least + self.dice.randint(1, 80)), (-200, 199), (-700, 700), WIDE, WIDE))
