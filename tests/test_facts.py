import unittest

from retroact.answers import ask
from retroact.errors import ImpossibleEvent
from retroact.facts import facts_of
from retroact.history import History, states_of
from retroact.program import Actor, Program
from retroact.rules import fact_key, sorted_facts

from tests.helpers import attributes, frozen, num, var
from tests.samples import histories

X, Y = ("variable", "x"), ("variable", "y")
# The shop has two children: one that stops, and one that fails when it is born.
MAIN = Actor("shop", [], [("n", num(4)), ("low", ("negative", num(2)))], [
    ("add", ["x"], [("set", "n", ("plus", var("n"), var("x"))), ("call", "pay", [var("n"), var("x")], "paid"),
                    ("call", "ring", [], None)]),
    ("grow", [], [("spawn", "part", [num(7)], "c"), ("spawn", "part", [num(0)], "d"), ("send", ("child", var("c")), "halt", []),
                  ("send", ("child", var("d")), "halt", []), ("send", ("self",), "none", []), ("send", ("parent",), "add", [])]),
    ("paid", ["y"], [("if", ("less", var("y"), num(0)), [("fail",)], [("stop",)])])])
PART = Actor("part", ["size"], [("share", ("over", num(70), var("size")))], [("halt", [], [("stop",)])])
PROGRAM = Program([("pay", 2), ("ring", 0)], [MAIN, PART])
EVENTS = [
    ("input", (), "add", (3,)), ("input", (), "grow", ()), ("deliver", 1), ("deliver", 1), ("deliver", 1), ("deliver", 0),
    ("answer", 1, 5), ("answer", 0, -1), ("deliver", 0), ("deliver", 0),
]


def named(facts, *names):
    return [fact for fact in facts if fact[0] in names]


def slow_facts(program, events):
    """Return the facts by the words of the document: each kind by itself, from the states at all moments."""
    states = states_of(program, events)
    history = History(program)
    told = [history.record(event) for event in events]
    found = [("event", (i, event[0])) for i, event in enumerate(events)]
    for m, state in enumerate(states):
        for path, being in state.beings.items():
            found += [("being", (path, being.kind, m)), ("mode", (path, being.mode, m))]
            found += [("state", (path, name, number, m)) for name, number in being.states.items()]
    for i, row in enumerate(told):
        if row[0] == "handled":
            found.append(("handled", (row[1], row[2], row[3], i)))
        elif row[0] == "dropped":
            found.append(("dropped", (row[1], row[2], i)))
        elif row[0] == "answered":
            found.append(("answered", (*row[1], i)))
    for j, event in enumerate(events):
        if event[0] == "deliver":
            origin = states[j].waiting[event[1]][3]
            first = min([i for i in range(j) if origin in [message[3] for message in states[i + 1].waiting]])
            found.append(("caused", (first, j)))
    for (path, n), effect, arguments in states[-1].gone:
        first = min([i for i in range(len(events)) if (path, n) in [call[0] for call in states[i + 1].gone]])
        found.append(("called", (path, n, effect, first)))
        found += [("argument", (path, n, k, number)) for k, number in enumerate(arguments)]
    return sorted(found, key=fact_key)


class FactTests(unittest.TestCase):
    def setUp(self):
        self.facts = facts_of(PROGRAM, EVENTS)

    def test_without_events(self):
        self.assertEqual(facts_of(PROGRAM, []), [
            ("being", ((), "shop", 0)), ("mode", ((), "on", 0)), ("state", ((), "low", -2, 0)), ("state", ((), "n", 4, 0))])

    def test_events(self):
        words = ["input", "input", "deliver", "deliver", "deliver", "deliver", "answer", "answer", "deliver", "deliver"]
        self.assertEqual(named(self.facts, "event"), [("event", pair) for pair in enumerate(words)])

    def test_beings_at_each_moment(self):
        born = [((0,), "part", m) for m in range(3, 11)] + [((1,), "part", m) for m in range(3, 11)]
        self.assertEqual(named(self.facts, "being"), [("being", ((), "shop", m)) for m in range(11)] + [("being", row) for row in born])

    def test_modes_at_each_moment(self):
        modes = [(path, mode, m) for _, (path, mode, m) in named(self.facts, "mode")]
        self.assertEqual(sorted([m for path, mode, m in modes if (path, mode) == ((), "on")]), list(range(10)))
        self.assertEqual([row for row in modes if row[:2] == ((), "failed")], [((), "failed", 10)])
        self.assertEqual([row for row in modes if row[:2] == ((0,), "on")], [((0,), "on", 3)])
        self.assertEqual([m for path, mode, m in modes if (path, mode) == ((0,), "stopped")], list(range(4, 11)))
        self.assertEqual([m for path, mode, m in modes if (path, mode) == ((1,), "failed")], list(range(3, 11)))
        self.assertEqual(len(modes), 11 + 8 + 8)

    def test_states_at_each_moment(self):
        rows = [constants for _, constants in named(self.facts, "state")]
        self.assertEqual([(number, m) for path, name, number, m in rows if (path, name) == ((), "n")],
                         [(4, m) for m in range(6)] + [(7, m) for m in range(6, 11)])
        self.assertEqual([(number, m) for path, name, number, m in rows if (path, name) == ((), "low")], [(-2, m) for m in range(11)])
        self.assertEqual([(number, m) for path, name, number, m in rows if path == (0,)], [(10, m) for m in range(3, 11)])
        self.assertEqual([(number, m) for path, name, number, m in rows if path == (1,)], [(0, m) for m in range(3, 11)])

    def test_deliveries(self):
        self.assertEqual(named(self.facts, "handled"), [
            ("handled", ((), "add", "done", 5)), ("handled", ((), "grow", "done", 2)), ("handled", ((), "paid", "failed", 9)),
            ("handled", ((0,), "halt", "stopped", 3))])
        self.assertEqual(named(self.facts, "dropped"), [("dropped", ((), "none", 8)), ("dropped", ((1,), "halt", 4))])

    def test_causes(self):
        # The first input waited behind the event 0 and was delivered by the event 5; the answers wait behind 6 and 7.
        self.assertEqual(named(self.facts, "caused"), [("caused", pair) for pair in ((0, 5), (1, 2), (2, 3), (2, 4), (2, 8), (7, 9))])

    def test_calls(self):
        self.assertEqual(named(self.facts, "called"), [("called", ((), 0, "pay", 5)), ("called", ((), 1, "ring", 5))])
        self.assertEqual(named(self.facts, "answered"), [("answered", ((), 0, 7)), ("answered", ((), 1, 6))])
        self.assertEqual(named(self.facts, "argument"), [("argument", ((), 0, 0, 7)), ("argument", ((), 0, 1, 3))])

    def test_calls_that_are_never_answered(self):
        facts = facts_of(PROGRAM, EVENTS[:6])
        self.assertEqual(named(facts, "answered"), [])
        self.assertEqual(named(facts, "called"), named(self.facts, "called"))

    def test_the_order_and_each_fact_once(self):
        self.assertEqual(self.facts, sorted_facts(self.facts))
        self.assertEqual(len(set(self.facts)), len(self.facts))
        self.assertEqual([fact[0] for fact in self.facts][0::30], sorted([fact[0] for fact in self.facts])[0::30])

    def test_by_the_words_of_the_document(self):
        self.assertEqual(self.facts, slow_facts(PROGRAM, EVENTS))
        for program, events in histories(120, 25):
            self.assertEqual(facts_of(program, events), slow_facts(program, events))

    def test_impossible_events(self):
        for at, event in ((0, ("deliver", 0)), (3, ("deliver", 9)), (5, ("answer", 0, 1)), (10, ("input", (), "add", (1,))),
                          (10, ("input", (5,), "add", (1,))), (1, ("input", (), "add", (1000000001,)))):
            with self.assertRaises(ImpossibleEvent) as caught:
                facts_of(PROGRAM, EVENTS[:at] + [event] + [("deliver", -1)])
            self.assertEqual(caught.exception.event, event)

    def test_nothing_that_is_passed_changes(self):
        before = attributes(frozen([PROGRAM, EVENTS]))
        facts_of(PROGRAM, EVENTS).clear()
        self.assertEqual(attributes([PROGRAM, EVENTS]), before)
        self.assertEqual(facts_of(PROGRAM, EVENTS), self.facts)

    def test_questions_about_a_history(self):
        rules = [(("late", (X, Y)), [("holds", ("caused", (X, Y))), ("holds", ("event", (X, "input"))), ("less", 1, Y), ("differs", X, 1)])]
        self.assertEqual(ask(rules, self.facts, ("late", (X, Y))), [("late", (0, 5))])
        self.assertEqual(ask([], self.facts, ("mode", (X, "failed", 10))), [("mode", ((), "failed", 10)), ("mode", ((1,), "failed", 10))])


if __name__ == "__main__":
    unittest.main()
