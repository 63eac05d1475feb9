import unittest

from retroact.errors import Fault
from retroact.handlers import Outcome, Reckoner, begin_with, locals_of, run_handler, run_with, same_outcome
from retroact.program import Actor

from tests.helpers import attributes, fault_of, frozen, num, var
from tests.samples import Maker

TOP = 1000000000
ZERO = ("over", num(1), num(0))
LARGE = ("plus", num(TOP), num(1))


def run(body, states=None, spawned=0, arguments=(), parameters=()):
    return run_handler(("go", list(parameters), body), {} if states is None else states, spawned, arguments)


def tell(*arguments):
    return ("send", ("self",), "tell", list(arguments))


class OutcomeTests(unittest.TestCase):
    def test_attributes(self):
        self.assertEqual(vars(Outcome("done", {"n": 1}, [("call", "pay", (), None)])), {
            "kind": "done", "states": {"n": 1}, "deeds": [("call", "pay", (), None)], "reason": None,
        })
        self.assertEqual(vars(Outcome(kind="failed", states={}, deeds=[], reason="zero"))["reason"], "zero")

    def test_dicts_and_lists_are_its_own(self):
        states, deeds = {"n": 1}, []
        outcome = Outcome("done", states, deeds)
        states["n"] = 2
        deeds.append(("call", "pay", (), None))
        self.assertEqual((outcome.states, outcome.deeds), ({"n": 1}, []))

    def test_same_outcome(self):
        deed = ("call", "pay", (1,), None)

        def outcome(kind="done", number=1, deeds=(deed,), reason=None):
            return Outcome(kind, {"n": number}, list(deeds), reason)

        self.assertIs(same_outcome(outcome(), outcome()), True)
        for other in (outcome(kind="stopped"), outcome(number=2), outcome(deeds=[]), outcome(deeds=[deed, deed]),
                      outcome(reason="zero"), Outcome("done", {}, [deed]), Outcome("done", {"m": 1}, [deed])):
            self.assertIs(same_outcome(outcome(), other), False)
            self.assertIs(same_outcome(other, outcome()), False)


class LocalsTests(unittest.TestCase):
    def test_names_in_all_lists(self):
        body = [
            ("set", "e", num(1)), ("spawn", "helper", [var("u")], "b"), ("call", "pay", [var("v")], "w"), tell(var("x")),
            ("if", var("y"), [("set", "d", num(1))], [("repeat", num(1), [("set", "a", num(1)), ("set", "e", num(1))])]),
            ("repeat", num(1), [("spawn", "helper", [], "c")]),
        ]
        self.assertEqual(locals_of(body, []), ["a", "b", "c", "d", "e"])
        self.assertEqual(locals_of(body, ["d", "b", "z"]), ["a", "c", "e"])
        self.assertEqual(locals_of([], ["a"]), [])
        self.assertEqual(locals_of([("stop",), ("fail",)], []), [])

    def test_nothing_is_modified(self):
        body, known = [("if", num(1), [("set", "a", num(1))], [])], ["b"]
        kept = frozen((body, known))
        locals_of(body, known)
        self.assertEqual((body, known), kept)


class StatementTests(unittest.TestCase):
    def check(self, outcome, kind, states, deeds, reason=None):
        self.assertEqual((outcome.kind, outcome.states, outcome.deeds, outcome.reason), (kind, states, deeds, reason))

    def test_empty_body(self):
        self.check(run([], {"n": 1}), "done", {"n": 1}, [])

    def test_set(self):
        outcome = run([("set", "n", ("plus", var("n"), var("x")))], {"n": 1, "m": 5}, 0, (2,), ["x"])
        self.check(outcome, "done", {"n": 3, "m": 5}, [])
        body = [("set", "n", num(2)), ("set", "m", ("times", var("n"), num(10))), ("set", "n", num(3))]
        self.check(run(body, {"n": 1, "m": 1}), "done", {"n": 3, "m": 20}, [])

    def test_if(self):
        for number, expected in ((1, 10), (-1, 10), (5, 10), (0, 20)):
            body = [("if", var("x"), [("set", "n", num(10))], [("set", "n", num(20))])]
            self.check(run(body, {"n": 0}, 0, (number,), ["x"]), "done", {"n": expected}, [])
        self.check(run([("if", num(0), [("fail",)], []), tell()]), "done", {}, [("send", ("self",), "tell", ())])

    def test_repeat(self):
        body = [("repeat", var("n"), [("set", "n", ("plus", var("n"), num(1)))])]
        self.check(run(body, {"n": 3}), "done", {"n": 6}, [])
        self.check(run(body, {"n": 0}), "done", {"n": 0}, [])
        self.check(run(body, {"n": 20}), "done", {"n": 40}, [])
        self.check(run(body, {"n": 21}), "failed", {"n": 21}, [], "count")
        self.check(run(body, {"n": -1}), "failed", {"n": -1}, [], "count")
        self.check(run([("repeat", num(21), [])]), "failed", {}, [], "count")

    def test_repeat_in_repeat(self):
        inner = ("repeat", num(20), [("set", "n", ("plus", var("n"), num(1)))])
        self.check(run([("repeat", num(20), [inner, ("set", "m", var("n"))])], {"n": 0, "m": 0}),
                   "done", {"n": 400, "m": 400}, [])

    def test_send(self):
        body = [("send", ("parent",), "up", [var("n"), num(-2)]), ("send", ("self",), "again", []),
                ("send", ("child", ("plus", var("n"), num(1))), "down", [("not", var("n"))]),
                ("send", ("child", num(-4)), "down", [])]
        self.check(run(body, {"n": 7}), "done", {"n": 7}, [
            ("send", ("parent",), "up", (7, -2)), ("send", ("self",), "again", ()),
            ("send", ("child", 8), "down", (0,)), ("send", ("child", -4), "down", ()),
        ])

    def test_spawn(self):
        spawn = ("spawn", "helper", [var("n")], "c")
        body = [spawn, ("set", "n", ("plus", num(100), var("c"))), spawn, ("spawn", "other", [], "d"),
                tell(var("c"), var("d"))]
        self.check(run(body, {"n": 1}, 5), "done", {"n": 105}, [
            ("spawn", "helper", (1,)), ("spawn", "helper", (105,)), ("spawn", "other", ()),
            ("send", ("self",), "tell", (6, 7)),
        ])

    def test_spawn_in_repeat(self):
        body = [("repeat", num(3), [("spawn", "helper", [], "c"), ("send", ("child", var("c")), "go", [])])]
        self.assertEqual([deed[1] for deed in run(body, {}, 2).deeds if deed[0] == "send"],
                         [("child", 2), ("child", 3), ("child", 4)])

    def test_call(self):
        body = [("call", "pay", [var("n"), num(1)], "paid"), ("call", "ring", [], None)]
        self.check(run(body, {"n": 3}), "done", {"n": 3}, [("call", "pay", (3, 1), "paid"), ("call", "ring", (), None)])

    def test_arguments_are_tuples(self):
        for deed in run([tell(num(1)), ("spawn", "helper", [], "c"), ("call", "pay", [num(1)], None)]).deeds:
            self.assertIsInstance(deed, tuple)
            self.assertIsInstance(deed[2] if deed[0] != "send" else deed[3], tuple)

    def test_stop(self):
        body = [tell(), ("set", "n", num(2)), ("stop",), tell(), ("fail",)]
        self.check(run(body, {"n": 1}), "stopped", {"n": 2}, [("send", ("self",), "tell", ())])

    def test_stop_in_lists(self):
        stopping = [("set", "n", ("plus", var("n"), num(1))), ("if", ("same", var("n"), num(3)), [("stop",)], [])]
        self.check(run([("repeat", num(10), stopping), ("set", "n", num(50))], {"n": 0}), "stopped", {"n": 3}, [])
        self.check(run([("repeat", num(2), [("repeat", num(10), stopping)]), ("fail",)], {"n": 0}), "stopped", {"n": 3}, [])
        self.check(run([("if", num(0), [], [("stop",)]), ("fail",)]), "stopped", {}, [])

    def test_fail(self):
        self.check(run([tell(), ("set", "n", num(2)), ("fail",), ("stop",)], {"n": 1}), "failed", {"n": 1}, [], "fail")
        self.check(run([("repeat", num(1), [("if", num(1), [("fail",)], [])])]), "failed", {}, [], "fail")


class NameTests(unittest.TestCase):
    def test_locals_are_zero_at_first(self):
        body = [tell(var("a"), var("c")), ("set", "a", num(5)), ("spawn", "helper", [], "c"), tell(var("a"), var("c"))]
        deeds = run(body, {}, 3).deeds
        self.assertEqual([deed[3] for deed in deeds if deed[0] == "send"], [(0, 0), (5, 3)])

    def test_locals_of_lists_that_are_not_run(self):
        body = [("if", num(0), [("set", "a", num(1))], [("set", "b", num(2))]), tell(var("a"), var("b"))]
        self.assertEqual(run(body).deeds[0][3], (0, 2))

    def test_locals_are_no_states(self):
        outcome = run([("set", "a", num(5)), ("set", "n", var("a"))], {"n": 0})
        self.assertEqual(outcome.states, {"n": 5})

    def test_a_parameter_hides_a_state(self):
        outcome = run([tell(var("n")), ("set", "m", var("n"))], {"n": 1, "m": 2}, 0, (9,), ["n"])
        self.assertEqual((outcome.states, outcome.deeds[0][3]), ({"n": 1, "m": 9}, (9,)))

    def test_a_hidden_state_stays_when_the_parameter_is_set(self):
        body = [("set", "n", ("plus", var("n"), num(1))), tell(var("n"))]
        outcome = run(body, {"n": 1}, 0, (9,), ["n"])
        self.assertEqual((outcome.states, outcome.deeds[0][3]), ({"n": 1}, (10,)))

    def test_a_parameter_that_is_set(self):
        outcome = run([("set", "x", num(4)), ("spawn", "helper", [], "y"), tell(var("x"), var("y"))], {}, 6, (1, 2), ["x", "y"])
        self.assertEqual((outcome.kind, outcome.deeds[1][3]), ("done", (4, 6)))

    def test_arguments_belong_to_the_parameters_in_order(self):
        self.assertEqual(run([tell(var("y"), var("x"))], {}, 0, (1, 2), ["x", "y"]).deeds[0][3], (2, 1))

    def test_order_of_the_states_stays(self):
        outcome = run([("set", "z", num(1)), ("set", "a", num(2))], {"z": 0, "m": 0, "a": 0})
        self.assertEqual(list(outcome.states.items()), [("z", 1), ("m", 0), ("a", 2)])


class FaultTests(unittest.TestCase):
    def reason(self, *body, states=None):
        outcome = run(list(body), states or {})
        if outcome.reason is not None:
            self.assertEqual((outcome.states, outcome.deeds), (states or {}, []))
        self.assertEqual(outcome.kind == "failed", outcome.reason is not None)
        return outcome.reason

    def test_reasons(self):
        for statement in (("set", "a", ZERO), ("if", ZERO, [], []), ("repeat", ZERO, []), tell(num(1), ZERO),
                          ("send", ("child", ZERO), "go", []), ("spawn", "helper", [ZERO], "c"),
                          ("call", "pay", [num(1), ZERO], None)):
            self.assertEqual(self.reason(tell(), statement), "zero", statement)
        self.assertEqual(self.reason(("set", "a", LARGE)), "range")
        self.assertEqual(self.reason(("set", "a", num(TOP + 1))), "range")
        self.assertEqual(self.reason(("repeat", num(21), [])), "count")
        self.assertEqual(self.reason(("fail",)), "fail")
        self.assertIsNone(self.reason(("stop",)))

    def test_which_fault_comes_first(self):
        self.assertEqual(self.reason(("set", "a", ZERO), ("fail",)), "zero")
        self.assertEqual(self.reason(("fail",), ("set", "a", ZERO)), "fail")
        self.assertEqual(self.reason(tell(ZERO, LARGE)), "zero")
        self.assertEqual(self.reason(tell(LARGE, ZERO)), "range")
        self.assertEqual(self.reason(("send", ("child", LARGE), "go", [ZERO])), "range")
        self.assertEqual(self.reason(("send", ("child", ZERO), "go", [LARGE])), "zero")
        self.assertEqual(self.reason(("spawn", "helper", [LARGE, ZERO], "c")), "range")
        self.assertEqual(self.reason(("call", "pay", [ZERO, LARGE], None)), "zero")
        self.assertIsNone(self.reason(("stop",), ("fail",)))

    def test_states_and_deeds_of_a_failed_run(self):
        outcome = run([("set", "n", num(2)), tell(), ("spawn", "helper", [], "c"), ("fail",)], {"n": 1, "m": 0}, 3)
        self.assertEqual((outcome.kind, outcome.states, outcome.deeds), ("failed", {"n": 1, "m": 0}, []))

    def test_sixty_deeds(self):
        for deed in (tell(), ("spawn", "helper", [], "c"), ("call", "pay", [], None)):
            for many, kind in ((59, "done"), (60, "done"), (61, "failed")):
                outcome = run([deed] * many)
                self.assertEqual((outcome.kind, outcome.reason), (kind, "deeds" if many > 60 else None))
                self.assertEqual(len(outcome.deeds), 0 if many > 60 else many)
        mixed = [("repeat", num(20), [tell(), ("spawn", "helper", [], "c"), ("call", "pay", [], None)])]
        self.assertEqual(len(run(mixed).deeds), 60)
        self.assertEqual(run(mixed + [tell()]).reason, "deeds")

    def test_deeds_comes_behind_the_expressions(self):
        many = [tell()] * 60
        for statement in (tell(ZERO), ("send", ("child", ZERO), "go", []), ("spawn", "helper", [ZERO], "c"),
                          ("call", "pay", [ZERO], None)):
            self.assertEqual(self.reason(*many, statement), "zero")
        self.assertEqual(self.reason(*many, tell(num(1)), ("fail",)), "deeds")
        self.assertIsNone(self.reason(*many, ("set", "a", num(1)), ("stop",), tell()))


class UnchangedTests(unittest.TestCase):
    def test_what_was_passed_stays(self):
        body = [("set", "n", num(2)), ("if", num(1), [("set", "a", num(3))], []), ("repeat", num(2), [tell(var("a"))])]
        for last in ([], [("fail",)], [("stop",)]):
            handler, states = ("go", ["x"], body + last), {"n": 1}
            kept = frozen((handler, states))
            first = run_handler(handler, states, 0, (1,))
            self.assertEqual((handler, states), kept)
            self.assertTrue(same_outcome(first, run_handler(handler, states, 0, (1,))))
            first.states["n"] = 77
            first.deeds.append(None)
            self.assertEqual((handler, states), kept)

    def test_facts_of_runs(self):
        for seed in range(200):
            maker = Maker(seed)
            program = maker.program()
            for actor in program.actors:
                states = {name: maker.dice.randint(-3, 3) for name, _ in actor.states}
                for handler in actor.handlers:
                    arguments = tuple([maker.dice.randint(-3, 20) for _ in handler[1]])
                    kept = attributes(frozen([handler, states]))
                    outcome = run_handler(handler, states, 2, arguments)
                    self.assertLessEqual(len(outcome.deeds), 60)
                    self.assertIn(outcome.kind, ("done", "stopped", "failed"))
                    self.assertEqual(attributes([handler, states]), kept)
                    self.assertTrue(same_outcome(outcome, run_with(handler, states, 2, arguments, Reckoner())))


class ReckonerTests(unittest.TestCase):
    def test_reckons_with_values(self):
        reckoner = Reckoner()
        self.assertEqual(reckoner.reckon(("plus", var("x"), num(1)), {"x": 4}), 5)
        self.assertEqual(fault_of(reckoner.reckon, ZERO, {}), "zero")
        self.assertEqual([reckoner.is_true(number) for number in (0, 1, -1, 7)], [False, True, True, True])
        self.assertIs(reckoner.is_true(3), True)
        self.assertIs(reckoner.is_true(0), False)
        self.assertEqual((reckoner.whole(-3), reckoner.told(12)), (-3, 12))


class Words:
    """Reckons with words such as "<5>", and notes what it is asked."""

    def __init__(self):
        self.asked = []

    def reckon(self, expression, names):
        self.asked.append(("reckon", expression))
        if expression[0] == "number":
            return f"<{expression[1]}>"
        if expression[0] == "name":
            return names[expression[1]]
        return "+".join([self.reckon(part, names) for part in expression[1:]])

    def is_true(self, number):
        self.asked.append(("is_true", number))
        return number != "<0>"

    def whole(self, number):
        self.asked.append(("whole", number))
        return int(number.strip("<>"))

    def told(self, integer):
        self.asked.append(("told", integer))
        return f"<{integer}>"


class RunWithTests(unittest.TestCase):
    def run_words(self, body, states=None, spawned=0, arguments=(), parameters=()):
        words = Words()
        handler = ("go", list(parameters), body)
        return run_with(handler, {} if states is None else states, spawned, arguments, words), words.asked

    def test_all_numbers_are_those_of_the_reckoner(self):
        body = [("set", "n", ("plus", var("n"), var("x"))), tell(var("c"), num(3)), ("spawn", "helper", [var("n")], "c"),
                ("call", "pay", [var("c")], "paid")]
        outcome, _ = self.run_words(body, {"n": "N", "m": "M"}, 4, ("X",), ["x"])
        self.assertEqual((outcome.kind, outcome.reason), ("done", None))
        self.assertEqual(outcome.states, {"n": "N+X", "m": "M"})
        self.assertEqual(outcome.deeds, [
            ("send", ("self",), "tell", ("<0>", "<3>")), ("spawn", "helper", ("N+X",)), ("call", "pay", ("<4>",), "paid"),
        ])

    def test_what_is_asked_for_locals(self):
        body = [("set", "b", num(1)), ("spawn", "helper", [], "a"), tell(var("a"), var("b"), var("x"))]
        outcome, asked = self.run_words(body, {"n": "N"}, 7, ("X",), ["x"])
        self.assertEqual(outcome.deeds[1], ("send", ("self",), "tell", ("<7>", "<1>", "X")))
        self.assertEqual(asked, [("told", 0), ("told", 0), ("reckon", num(1)), ("told", 7), ("reckon", var("a")),
                                 ("reckon", var("b")), ("reckon", var("x"))])

    def test_locals_that_were_not_set(self):
        outcome, _ = self.run_words([("if", num(0), [("set", "a", num(1))], []), tell(var("a"))])
        self.assertEqual(outcome.deeds, [("send", ("self",), "tell", ("<0>",))])

    def test_what_is_asked_for_if(self):
        body = [("if", var("x"), [tell(num(1))], [tell(num(2))])]
        outcome, asked = self.run_words(body, {}, 0, ("<0>",), ["x"])
        self.assertEqual(outcome.deeds, [("send", ("self",), "tell", ("<2>",))])
        self.assertEqual(asked, [("reckon", var("x")), ("is_true", "<0>"), ("reckon", num(2))])
        self.assertEqual(self.run_words(body, {}, 0, ("odd",), ["x"])[0].deeds[0][3], ("<1>",))

    def test_what_is_asked_for_repeat(self):
        outcome, asked = self.run_words([("repeat", var("x"), [tell(num(5))])], {}, 0, ("<2>",), ["x"])
        self.assertEqual(len(outcome.deeds), 2)
        self.assertEqual(asked, [("reckon", var("x")), ("whole", "<2>"), ("reckon", num(5)), ("reckon", num(5))])
        self.assertEqual(self.run_words([("repeat", num(21), [])])[0].reason, "count")
        self.assertEqual(self.run_words([("repeat", num(-1), [])])[0].reason, "count")

    def test_what_is_asked_for_children(self):
        outcome, asked = self.run_words([("send", ("child", num(3)), "go", [num(4)])])
        self.assertEqual(outcome.deeds, [("send", ("child", 3), "go", ("<4>",))])
        self.assertEqual(asked[0], ("reckon", num(3)))
        self.assertEqual(sorted(asked), sorted([("reckon", num(3)), ("whole", "<3>"), ("reckon", num(4))]))

    def test_children_are_numbered_in_a_run(self):
        outcome, asked = self.run_words([("spawn", "helper", [], "c"), ("spawn", "helper", [], "d"), tell(var("d"))], {}, 8)
        self.assertEqual(outcome.deeds[2][3], ("<9>",))
        self.assertEqual([word for word in asked if word[0] == "told"],
                         [("told", 0), ("told", 0), ("told", 8), ("told", 9)])

    def test_each_method_may_raise_a_fault(self):
        body = [("set", "n", num(1)), ("if", num(1), [], []), ("repeat", num(1), []), ("spawn", "helper", [], "c")]
        for method in ("reckon", "is_true", "whole", "told"):
            class Faulty(Words):
                pass

            def refuse(self, *arguments):
                raise Fault("mine")

            setattr(Faulty, method, refuse)
            outcome = run_with(("go", [], body), {"n": "N"}, 0, (), Faulty())
            self.assertEqual((outcome.kind, outcome.states, outcome.deeds, outcome.reason), ("failed", {"n": "N"}, [], "mine"))

    def test_other_errors_go_through(self):
        class Split(Exception):
            pass

        for error in (Split, ValueError, KeyError, StopIteration, ZeroDivisionError):
            class Splitting(Words):
                def reckon(self, expression, names):
                    raise error()

            for body in ([tell(num(1))], [("set", "a", num(1))], [("if", num(1), [], [])]):
                with self.assertRaises(error):
                    run_with(("go", [], body), {}, 0, (), Splitting())
            with self.assertRaises(error):
                begin_with(Actor("a", [], [("n", num(1))], []), (), Splitting())


class BeginWithTests(unittest.TestCase):
    ACTOR = Actor("a", ["p", "q"], [("n", ("plus", var("p"), num(1))), ("m", ("times", var("n"), var("q")))], [])

    def test_values(self):
        self.assertEqual(begin_with(self.ACTOR, (2, 5), Reckoner()), {"n": 3, "m": 15})
        self.assertEqual(list(begin_with(self.ACTOR, (2, 5), Reckoner())), ["n", "m"])
        self.assertEqual(begin_with(Actor("a", [], [], []), (), Reckoner()), {})

    def test_faults(self):
        self.assertIsNone(begin_with(self.ACTOR, (TOP, 5), Reckoner()))
        self.assertIsNone(begin_with(self.ACTOR, (TOP - 1, 5), Reckoner()))
        self.assertIsNone(begin_with(Actor("a", [], [("n", num(1)), ("m", ZERO)], []), (), Reckoner()))

    def test_another_reckoner(self):
        words = Words()
        self.assertEqual(begin_with(self.ACTOR, ("P", "Q"), words), {"n": "P+<1>", "m": "P+<1>+Q"})

    def test_nothing_is_modified(self):
        kept = attributes(frozen(self.ACTOR))
        begin_with(self.ACTOR, (1, 2), Reckoner())["n"] = 4
        self.assertEqual(attributes(self.ACTOR), kept)
        self.assertEqual(begin_with(self.ACTOR, (1, 2), Reckoner()), {"n": 2, "m": 4})


if __name__ == "__main__":
    unittest.main()
