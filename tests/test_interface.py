"""The names, places and arguments of what DOC.md lists, and its examples."""

import importlib
import inspect
import unittest

from retroact.answers import ask, model
from retroact.cases import Unknown, accepts_cases, make_cases, state_of, where
from retroact.desk import Desk
from retroact.errors import Fault, InvalidMoment, NotLayered, TextError
from retroact.facts import facts_of
from retroact.handlers import run_handler
from retroact.history import changes
from retroact.journal import read_event, read_journal, replay, write_event
from retroact.machine import apply, first_state, inputs_of
from retroact.papers import accepts_book, accepts_derivation, derivation, make_book
from retroact.plans import accepts, cost, plan
from retroact.prices import Prices
from retroact.program import Actor, Program
from retroact.reader import read_program
from retroact.rules import layers, sorted_facts
from retroact.saga import Outside, Saga
from retroact.unknown import bounds, part_at_least, parts_range, united, value_at
from retroact.values import evaluate, evaluate_all
from retroact.writer import write_program

FUNCTIONS = {
    "program": {"same_program": "(program, other)", "is_let_by": "(program)"},
    "lexer": {"tokens": "(line, number)"},
    "reader": {"read_program": "(text)"},
    "writer": {"write_program": "(program)", "write_expression": "(expression)"},
    "values": {"is_value": "(number)", "evaluate": "(expression, names)", "evaluate_all": "(expressions, names)"},
    "handlers": {
        "same_outcome": "(outcome, other)", "locals_of": "(body, known)",
        "run_handler": "(handler, states, spawned, arguments)",
        "run_with": "(handler, states, spawned, arguments, reckoner)",
        "begin_with": "(actor, arguments, reckoner)",
    },
    "machine": {
        "same_state": "(state, other)", "born": "(program, kind, arguments)", "first_state": "(program)",
        "is_possible": "(program, state, event)", "apply": "(program, state, event, moment)",
        "apply_with": "(program, state, event, moment, engine)", "inputs_of": "(program, state)",
    },
    "history": {"states_of": "(program, events)", "changes": "(first, second)"},
    "journal": {
        "write_event": "(event)", "read_event": "(line)", "write_journal": "(events)", "read_journal": "(text)",
        "replay": "(program, text)",
    },
    "patches": {
        "check_patch": "(old, patch)", "same_patch": "(program)", "convert": "(old, patch, state)",
        "converted_message": "(patch, kind, message, arguments)", "converted_call": "(patch, effect, arguments)",
    },
    "branches": {"branch": "(program, events, moment, patch)", "branch_events": "(one)"},
    "differences": {"difference": "(past, now)", "calls_since": "(state, other)"},
    "prices": {
        "undo_cost": "(prices, call)", "do_cost": "(prices, call)", "change_cost": "(prices, first, second)",
    },
    "plans": {
        "is_plan": "(there, here, prices, deeds)", "cost": "(there, here, prices, deeds)",
        "plan": "(there, here, prices)", "is_fair": "(there, here, prices, paper)",
        "accepts": "(there, here, prices, deeds, paper)",
    },
    "facts": {"facts_of": "(program, events)"},
    "rules": {
        "check_rules": "(rules)", "layers": "(rules)", "fact_key": "(fact)", "sorted_facts": "(facts)",
        "bind": "(atom, constants)",
    },
    "answers": {"model": "(rules, facts)", "ask": "(rules, facts, atom)"},
    "papers": {
        "make_book": "(rules, facts)", "accepts_book": "(rules, facts, book)", "derivation": "(rules, facts, fact)",
        "accepts_derivation": "(rules, facts, known, steps)",
    },
    "unknown": {
        "value_at": "(form, u)", "bounds": "(form, interval)", "part_at_least": "(form, interval)",
        "parts_range": "(intervals, least, greatest)", "united": "(intervals)",
    },
    "cases": {
        "make_cases": "(program, events, unknown)", "state_of": "(case, u)",
        "accepts_cases": "(program, events, unknown, cases)", "where": "(program, events, unknown, path, condition)",
    },
    "report": {
        "told_line": "(told)", "state_report": "(program, state)", "changes_report": "(first, second)",
        "branch_report": "(program, events, one)", "by_names": "(old, new)",
    },
    "desk": {"answers_of": "(lines)"},
}
CLASSES = {
    "errors": {
        "RetroactError": {},
        "TextError": {"__init__": "(self, line, column, reason)"},
        "TooLarge": {"__init__": "(self, limit)"},
        "Fault": {"__init__": "(self, reason)"},
        "ImpossibleEvent": {"__init__": "(self, event)"},
        "InvalidMoment": {"__init__": "(self, moment)"},
        "InvalidLine": {"__init__": "(self, number)"},
        "InvalidRules": {"__init__": "(self, number)"},
        "NotLayered": {"__init__": "(self, names)"},
        "InvalidPatch": {"__init__": "(self, name)"},
        "InvalidPrices": {"__init__": "(self, name)"},
        "UnknownEffect": {"__init__": "(self, name)"},
        "ConversionFault": {"__init__": "(self, path, reason)"},
        "InvalidUnknown": {"__init__": "(self)"},
        "InvalidJournal": {"__init__": "(self)"},
    },
    "program": {
        "Actor": {"__init__": "(self, name, parameters, states, handlers)"},
        "Program": {"__init__": "(self, effects, actors)"},
    },
    "handlers": {
        "Outcome": {"__init__": "(self, kind, states, deeds, reason=None)"},
        "Reckoner": {"reckon": "(self, expression, names)", "is_true": "(self, number)", "whole": "(self, number)",
                     "told": "(self, integer)"},
    },
    "machine": {
        "Being": {"__init__": "(self, kind, states, *, spawned=0, sent=0, called=0, mode='on')"},
        "State": {"__init__": "(self, beings, waiting, pending, gone)"},
        "Plain": {"run": "(self, handler, states, spawned, arguments)", "begin": "(self, actor, arguments)"},
    },
    "history": {"History": {
        "__init__": "(self, program, *, every=8)", "record": "(self, event)", "events": "(self)", "told": "(self)",
        "state_at": "(self, moment)", "kept": "(self)", "forget": "(self, moments)", "cut": "(self, moment)",
    }},
    "patches": {"Patch": {"__init__": "(self, program, kinds, effects)"}},
    "branches": {"Branch": {}},
    "prices": {"Prices": {"__init__": "(self, effects)"}},
    "saga": {
        "Outside": {"__init__": "(self, calls, *, losses=())", "send": "(self, number, deed)", "in_force": "(self)",
                    "done": "(self)"},
        "Saga": {"__init__": "(self, there, here, deeds, *, text='')", "step": "(self, outside)", "text": "(self)"},
    },
    "cases": {
        "Unknown": {"__init__": "(self, moment, index, least, greatest)"},
        "Case": {"__init__": "(self, least, greatest, done, told, state)"},
    },
    "desk": {"Desk": {"__init__": "(self)", "obey": "(self, line)", "lines": "(self)", "history": "(self)"}},
}


class InterfaceTests(unittest.TestCase):
    def test_functions(self):
        for module, functions in FUNCTIONS.items():
            for name, arguments in functions.items():
                function = getattr(importlib.import_module("retroact." + module), name)
                self.assertEqual(function.__module__, "retroact." + module)
                self.assertEqual(str(inspect.signature(function)), arguments, name)

    def test_classes(self):
        for module, classes in CLASSES.items():
            for name, methods in classes.items():
                owner = getattr(importlib.import_module("retroact." + module), name)
                self.assertEqual(owner.__module__, "retroact." + module)
                for method, arguments in methods.items():
                    self.assertIn(method, vars(owner), name)
                    self.assertEqual(str(inspect.signature(vars(owner)[method])), arguments, (name, method))

    def test_properties(self):
        self.assertIsInstance(vars(Saga)["is_over"], property)


class ExampleTests(unittest.TestCase):
    def test_reading_and_writing(self):
        text = "effect mail 1\nactor main\n  state n = 2\n  on add(x)\n    set n = n + x\n    call mail(n) then sent\n  end\nend\n"
        program = read_program(text)
        self.assertEqual((program.effects, program.actors[0].states, program.actors[0].handlers[0][2][1]),
                         ([("mail", 1)], [("n", ("number", 2))], ("call", "mail", [("name", "n")], "sent")))
        self.assertTrue(write_program(program) == text)
        with self.assertRaises(TextError):
            read_program("actor main\n  on add\n    set n = y\n  end\nend")

    def test_values(self):
        self.assertEqual(evaluate(("plus", ("name", "x"), ("number", 2)), {"x": 3}), 5)
        self.assertEqual(evaluate(("over", ("number", -7), ("number", 2)), {}), -4)
        self.assertEqual(evaluate_all([("number", 1), ("not", ("name", "x"))], {"x": 3}), (1, 0))
        with self.assertRaises(Fault):
            evaluate(("rest", ("number", 1), ("number", 0)), {})

    def test_handlers(self):
        body = [("set", "n", ("plus", ("name", "n"), ("name", "x"))), ("spawn", "helper", [("name", "n")], "c")]
        body = body + [("send", ("child", ("name", "c")), "go", [("number", 1)])]
        outcome = run_handler(("add", ["x"], body), {"n": 4}, 2, (3,))
        self.assertEqual((outcome.kind, outcome.states, outcome.deeds),
                         ("done", {"n": 7}, [("spawn", "helper", (7,)), ("send", ("child", 2), "go", (1,))]))
        self.assertEqual(run_handler(("add", ["x"], body + [("fail",)]), {"n": 4}, 2, (3,)).deeds, [])

    def test_machine(self):
        body = [("set", "n", ("plus", ("name", "n"), ("name", "x"))), ("call", "pay", [("name", "n")], "paid")]
        actor = Actor("shop", [], [("n", ("number", 4))], [("add", ["x"], body), ("paid", ["y"], [("stop",)])])
        program = Program([("pay", 1)], [actor])
        state = first_state(program)
        self.assertEqual((state.beings[()].states, inputs_of(program, state)),
                         ({"n": 4}, [((), "add", 1), ((), "paid", 1)]))
        state, told = apply(program, state, ("input", (), "add", (3,)), 0)
        self.assertEqual((told, state.waiting), (("input", (), "add"), [((), "add", (3,), ("input", 0))]))
        state, told = apply(program, state, ("deliver", 0), 1)
        self.assertEqual(told, ("handled", (), "add", "done", None))
        self.assertEqual((state.pending, state.gone), ([(((), 0), "pay", (7,), "paid")], [(((), 0), "pay", (7,))]))
        self.assertEqual(apply(program, state, ("answer", 0, 1), 2)[0].waiting,
                         [((), "paid", (1,), ("answer", ((), 0)))])

    def test_histories_and_journals(self):
        body = [("set", "n", ("plus", ("name", "n"), ("name", "x"))), ("call", "pay", [("name", "n")], "paid")]
        actor = Actor("shop", [], [("n", ("number", 4))], [("add", ["x"], body), ("paid", ["y"], [("stop",)])])
        program = Program([("pay", 1)], [actor])
        self.assertEqual((write_event(("input", (0, 2), "add", (3, -1))), read_event("answer 0 -5")),
                         ("input 0.2 add 3 -1", ("answer", 0, -5)))
        text = "input main add 3\ndeliver 0\nansw"
        self.assertEqual(read_journal(text), [("input", (), "add", (3,)), ("deliver", 0)])
        history = replay(program, text)
        self.assertEqual(changes(history.state_at(0), history.state_at(2)), [("state", (), "n", 4, 7), ("calls", ((), 0))])
        with self.assertRaises(InvalidMoment):
            history.state_at(3)

    def test_plans_and_sagas(self):
        prices = Prices({"pay": (5, 2, (1, 1))})
        there = [(((), 0), "pay", (10,)), (((), 1), "pay", (3,))]
        here = [(((), 0), "pay", (12,))]
        deeds, paper = plan(there, here, prices)
        self.assertEqual((deeds, cost(there, here, prices, deeds), accepts(there, here, prices, deeds, paper)),
                         ([("change", 0, 0), ("undo", 1)], 8, True))
        outside = Outside(there, losses=["back"])
        saga = Saga(there, here, deeds)
        self.assertEqual([saga.step(outside) for turn in range(5)],
                         [("sent", 0, False), ("sent", 0, True), ("noted", 0), ("sent", 1, True), ("noted", 1)])
        self.assertEqual((outside.done(), outside.in_force(), saga.text()),
                         ([0, 1], [(((), 0), "pay", (12,))], "done 0\ndone 1\n"))

    def test_facts(self):
        body = [("set", "n", ("plus", ("name", "n"), ("name", "x"))), ("call", "pay", [("name", "n")], None)]
        program = Program([("pay", 1)], [Actor("shop", [], [("n", ("number", 4))], [("add", ["x"], body)])])
        facts = facts_of(program, [("input", (), "add", (3,)), ("deliver", 0)])
        self.assertEqual([fact for fact in facts if fact[0] in ("argument", "called", "caused")],
                         [("argument", ((), 0, 0, 7)), ("called", ((), 0, "pay", 1)), ("caused", (0, 1))])
        self.assertEqual([fact for fact in facts if fact[0] == "state"],
                         [("state", ((), "n", 4, 0)), ("state", ((), "n", 4, 1)), ("state", ((), "n", 7, 2))])

    def test_rules_answers_and_papers(self):
        x = ("variable", "x")
        y = ("variable", "y")
        z = ("variable", "z")
        way = [(("way", (x, y)), [("holds", ("edge", (x, y)))]),
               (("way", (x, z)), [("holds", ("way", (x, y))), ("holds", ("edge", (y, z)))])]
        rules = way + [(("lost", (x, y)), [("holds", ("spot", (x,))), ("holds", ("spot", (y,))), ("fails", ("way", (x, y)))])]
        self.assertEqual(layers(rules), {"way": 0, "edge": 0, "lost": 1, "spot": 0})
        self.assertEqual(sorted_facts([("b", (1,)), ("a", ((0,),)), ("a", (5,)), ("a", ("s",))]),
                         [("a", (5,)), ("a", ("s",)), ("a", ((0,),)), ("b", (1,))])
        with self.assertRaises(NotLayered):
            layers([(("p", ()), [("fails", ("p", ()))])])
        facts = [("edge", (1, 2)), ("edge", (2, 3)), ("spot", (1,)), ("spot", (3,))]
        self.assertEqual(ask(rules, facts, ("way", (1, y))), [("way", (1, 2)), ("way", (1, 3))])
        self.assertEqual((ask(rules, facts, ("lost", (x, x))), len(model(rules, facts))),
                         ([("lost", (1, 1)), ("lost", (3, 3))], 10))
        self.assertTrue(accepts_book(rules, facts, make_book(rules, facts)))
        self.assertFalse(accepts_book(rules, facts, make_book(rules, facts)[1:]))
        self.assertEqual(derivation(rules, facts, ("lost", (3, 1)))[-1],
                         (("lost", (3, 1)), ("rule", 2, [("x", 3), ("y", 1)])))
        steps = [(("edge", (1, 2)), ("given",)), (("way", (1, 2)), ("rule", 0, [("x", 1), ("y", 2)]))]
        self.assertTrue(accepts_derivation(rules, facts, [], steps))

    def test_forms_and_intervals(self):
        self.assertEqual((value_at((2, -7), 5), bounds((-3, 1), (0, 4)), part_at_least((2, -7), (0, 9)), part_at_least((0, -1), (0, 9))),
                         (3, (-11, 1), (4, 9), None))
        self.assertEqual((parts_range([(0, 3), (4, 4), (5, 9)], 0, 9), united([(0, 3), (4, 4), (6, 9)])), (True, [(0, 4), (6, 9)]))

    def test_cases(self):
        body = [("if", ("less", ("number", 9), ("name", "x")), [("set", "n", ("number", 9))],
                 [("set", "n", ("plus", ("name", "n"), ("name", "x")))])]
        program = Program([], [Actor("shop", [], [("n", ("number", 4))], [("add", ["x"], body)])])
        events = [("input", (), "add", (3,)), ("deliver", 0)]
        cases = make_cases(program, events, Unknown(0, 0, 0, 50))
        self.assertEqual([state_of(case, 3).beings[()].states for case in cases if case.least <= 3 <= case.greatest], [{"n": 7}])
        self.assertTrue(accepts_cases(program, events, Unknown(0, 0, 0, 50), cases))
        self.assertFalse(accepts_cases(program, events, Unknown(0, 0, 0, 50), cases[1:]))
        condition = ("less", ("number", 8), ("name", "n"))
        self.assertEqual(where(program, events, Unknown(0, 0, 0, 50), (), condition), [(5, 50)])

    def test_the_desk(self):
        desk = Desk()
        lines = ["effect pay 1", "actor shop", "state n = 4", "on add(x)", "set n = n + x", "call pay(n)", "end", "end"]
        self.assertEqual(([desk.obey("text " + line) for line in lines][7], desk.obey("load"), desk.obey("inputs")),
                         (["lines 8"], ["loaded 1"], ["main add 1"]))
        self.assertEqual((desk.obey("event input main add 3"), desk.obey("event deliver 0"), desk.obey("event deliver 0")),
                         (["input main add"], ["handled main add done"], ["refused impossible"]))
        self.assertEqual((desk.obey("state 2"), desk.obey("changes 0 2")),
                         (["main shop on n=7", "calls main 0 pay 7"], ["state main n 4 7", "calls main 0"]))
        lines[4] = "set n = n + x + x"
        self.assertEqual(([desk.obey("text " + line) for line in lines][0], desk.obey("rebase 0")), (["lines 1"], [
            "fits input main add 3", "fits deliver 0", "undo main 0 pay 7", "do main 0 pay 10", "cost 1"]))
        self.assertEqual((desk.obey("journal"), desk.obey("back 1"), desk.obey("state 3")),
                         (["input main add 3", "deliver 0"], ["at 1"], ["refused number"]))


if __name__ == "__main__":
    unittest.main()
