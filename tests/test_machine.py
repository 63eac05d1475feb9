import unittest

from retroact.errors import Fault, ImpossibleEvent
from retroact.handlers import Outcome
from retroact.machine import (
    Being, Plain, State, apply, apply_with, born, first_state, inputs_of, is_possible, same_state,
)
from retroact.program import Actor, Program

from tests.helpers import attributes, frozen, num, var
from tests.samples import Maker

TOP = 1000000000
ZERO = ("over", num(1), num(0))
STOP = ("stop",)

MAIN = Actor("main", [], [("n", num(4))], [
    ("add", ["x"], [("set", "n", ("plus", var("n"), var("x")))]),
    ("pair", ["x", "y"], []),
    ("halt", [], [("set", "n", num(9)), ("send", ("self",), "add", [num(1)]), STOP]),
    ("crash", [], [("set", "n", num(9)), ("send", ("self",), "add", [num(1)]), ("fail",)]),
    ("divide", ["x"], [("set", "n", ("over", var("n"), var("x")))]),
    ("grow", ["x"], [("spawn", "helper", [var("x")], "c"), ("send", ("child", var("c")), "work", [var("c")])]),
    ("pay", ["x"], [("call", "pay", [var("x"), var("n")], "add")]),
    ("ring", [], [("call", "ring", [], None)]),
    ("talk", ["x"], [("send", ("parent",), "add", [num(1)]), ("send", ("self",), "add", [num(2)]),
                     ("send", ("child", var("x")), "work", [num(3)])]),
])
HELPER = Actor("helper", ["p"], [("k", ("over", num(100), var("p"))), ("m", ("plus", var("k"), num(1)))], [
    ("work", ["x"], [("set", "k", ("plus", var("k"), var("x"))), ("send", ("parent",), "add", [var("k")])]),
    ("nest", [], [("spawn", "main", [], "c")]),
    ("ask", [], [("call", "ring", [], "work"), ("call", "ring", [], "none")]),
])
PROGRAM = Program([("pay", 2), ("ring", 0)], [MAIN, HELPER])


def main_being(**more):
    return Being("main", {"n": 4}, **more)


def helper_being(**more):
    return Being("helper", {"k": 50, "m": 51}, **more)


def state_of(beings=None, waiting=(), pending=(), gone=()):
    return State({(): main_being()} if beings is None else beings, list(waiting), list(pending), list(gone))


def after(state, event, moment=5):
    """Return the state behind an event; what it is applied to must stay as it is."""
    kept = attributes(frozen(state))
    behind, _ = apply(PROGRAM, state, event, moment)
    assert attributes(state) == kept
    return behind


def told(state, event, moment=5):
    return apply(PROGRAM, state, event, moment)[1]


def delivered(state, path, message, arguments=()):
    """Return what `apply` returns for the delivery of a message that is put ahead of all others."""
    waits = State(state.beings, [(path, message, arguments, ("input", 99))] + state.waiting, state.pending, state.gone)
    kept = attributes(frozen(waits))
    found = apply(PROGRAM, waits, ("deliver", 0), 100)
    assert attributes(waits) == kept
    return found


class StateChecks:
    """Assertions about states, for test cases."""

    def assert_same_state(self, state, other):
        self.assertTrue(same_state(state, other), f"{attributes(state)}\n{attributes(other)}")


class ClassTests(unittest.TestCase):
    def test_being(self):
        self.assertEqual(vars(Being("main", {"n": 1})),
                         {"kind": "main", "states": {"n": 1}, "spawned": 0, "sent": 0, "called": 0, "mode": "on"})
        being = Being(kind="main", states={}, spawned=1, sent=2, called=3, mode="failed")
        self.assertEqual((being.spawned, being.sent, being.called, being.mode), (1, 2, 3, "failed"))
        with self.assertRaises(TypeError):
            Being("main", {}, 1)

    def test_being_copies_its_states(self):
        states = {"n": 1}
        being = Being("main", states)
        states["n"] = 2
        self.assertEqual(being.states, {"n": 1})

    def test_state_copies_dicts_and_lists_but_not_beings(self):
        being = main_being()
        beings, waiting, pending, gone = {(): being}, [1], [2], [3]
        state = State(beings=beings, waiting=waiting, pending=pending, gone=gone)
        for thing in (beings, waiting, pending, gone):
            thing.clear()
        self.assertEqual((list(state.beings), state.waiting, state.pending, state.gone), ([()], [1], [2], [3]))
        self.assertIs(state.beings[()], being)


class SameStateTests(unittest.TestCase):
    def test_equal_states(self):
        message, call = ((), "add", (1,), ("input", 0)), (((), 0), "ring", ())

        def make():
            return State({(): main_being(), (0,): helper_being()}, [message], [call + (None,)], [call])

        self.assertIs(same_state(make(), make()), True)
        turned = State({(0,): helper_being(), (): main_being()}, [message], [call + (None,)], [call])
        self.assertIs(same_state(make(), turned), True)

    def test_each_part_that_may_differ(self):
        message, call = ((), "add", (1,), ("input", 0)), (((), 0), "ring", ())
        one = state_of({(): main_being()}, [message], [call + (None,)], [call])
        others = [
            state_of({(): main_being()}, [], [call + (None,)], [call]),
            state_of({(): main_being()}, [message, message], [call + (None,)], [call]),
            state_of({(): main_being()}, [message], [call + ("add",)], [call]),
            state_of({(): main_being()}, [message], [], [call]),
            state_of({(): main_being()}, [message], [call + (None,)], []),
            state_of({}, [message], [call + (None,)], [call]),
            state_of({(0,): main_being()}, [message], [call + (None,)], [call]),
            state_of({(): main_being(), (0,): main_being()}, [message], [call + (None,)], [call]),
        ]
        for being in (Being("helper", {"n": 4}), Being("main", {"n": 5}), Being("main", {"m": 4}), Being("main", {}),
                      main_being(spawned=1), main_being(sent=1), main_being(called=1), main_being(mode="stopped")):
            others.append(state_of({(): being}, [message], [call + (None,)], [call]))
        for number, other in enumerate(others):
            self.assertIs(same_state(one, other), False, number)
            self.assertIs(same_state(other, one), False, number)


class BornTests(unittest.TestCase, StateChecks):
    def test_states_in_order(self):
        being = born(PROGRAM, "helper", (2,))
        self.assertEqual(attributes(being), attributes(Being("helper", {"k": 50, "m": 51})))
        self.assertEqual(list(being.states), ["k", "m"])
        self.assertEqual(born(PROGRAM, "main", ()).states, {"n": 4})

    def test_a_fault(self):
        self.assertEqual(attributes(born(PROGRAM, "helper", (0,))),
                         attributes(Being("helper", {"k": 0, "m": 0}, mode="failed")))
        late = Program([], [Actor("main", [], [("a", num(7)), ("b", ZERO)], [])])
        self.assertEqual(attributes(born(late, "main", ())), attributes(Being("main", {"a": 0, "b": 0}, mode="failed")))
        self.assertEqual(first_state(late).beings[()].mode, "failed")

    def test_first_state(self):
        self.assert_same_state(first_state(PROGRAM), State({(): Being("main", {"n": 4})}, [], [], []))
        turned = Program([], [Actor("late", [], [], []), MAIN])
        self.assert_same_state(first_state(turned), State({(): Being("late", {})}, [], [], []))

    def test_first_states_are_new(self):
        first_state(PROGRAM).beings[()].states["n"] = 77
        self.assertEqual(first_state(PROGRAM).beings[()].states, {"n": 4})


class PossibleTests(unittest.TestCase):
    def check(self, event, state, possible):
        kept = attributes(frozen([state, PROGRAM]))
        self.assertIs(is_possible(PROGRAM, state, event), possible, event)
        self.assertEqual(attributes([state, PROGRAM]), kept)

    def test_input(self):
        state = state_of({(): main_being(), (0,): helper_being(), (1,): helper_being(mode="stopped"),
                          (2,): helper_being(mode="failed")})
        self.check(("input", (), "add", (1,)), state, True)
        self.check(("input", (), "halt", ()), state, True)
        self.check(("input", (), "pair", (TOP, -TOP)), state, True)
        self.check(("input", (0,), "work", (1,)), state, True)
        self.check(("input", (3,), "work", (1,)), state, False)
        self.check(("input", (0, 0), "work", (1,)), state, False)
        self.check(("input", (1,), "work", (1,)), state, False)
        self.check(("input", (2,), "work", (1,)), state, False)
        self.check(("input", (), "work", (1,)), state, False)
        self.check(("input", (0,), "add", (1,)), state, False)
        self.check(("input", (), "nothing", ()), state, False)
        for arguments in ((), (1, 2), (1, 2, 3, 4, 5)):
            self.check(("input", (), "add", arguments), state, False)
        for number in (TOP + 1, -TOP - 1):
            self.check(("input", (), "add", (number,)), state, False)
            self.check(("input", (), "pair", (1, number)), state, False)

    def test_deliver(self):
        message = ((), "add", (1,), ("input", 0))
        for many in range(3):
            for k in (-3, -2, -1, 0, 1, 2, 3):
                self.check(("deliver", k), state_of(waiting=[message] * many), 0 <= k < many)

    def test_answer(self):
        call = (((), 0), "ring", (), None)
        for many in range(3):
            for k in (-3, -2, -1, 0, 1, 2, 3):
                self.check(("answer", k, 5), state_of(pending=[call] * many), 0 <= k < many)
        for number in (TOP, -TOP, 0):
            self.check(("answer", 0, number), state_of(pending=[call]), True)
        for number in (TOP + 1, -TOP - 1):
            self.check(("answer", 0, number), state_of(pending=[call]), False)

    def test_apply_refuses_what_is_not_possible(self):
        for event in (("input", (), "add", ()), ("input", (7,), "add", (1,)), ("deliver", 0), ("deliver", -1),
                      ("answer", 0, 1), ("input", (), "add", (TOP + 1,))):
            state = state_of()
            kept = attributes(frozen(state))
            with self.assertRaises(ImpossibleEvent) as caught:
                apply(PROGRAM, state, event, 0)
            self.assertEqual(caught.exception.event, event)
            self.assertEqual(attributes(state), kept)


class InputTests(unittest.TestCase, StateChecks):
    def test_the_message_waits_behind_all_others(self):
        first = ((), "add", (1,), ("input", 3))
        state = state_of(waiting=[first], pending=[(((), 0), "ring", (), None)], gone=[(((), 0), "ring", ())])
        wanted = State(state.beings, [first, ((), "pair", (7, 8), ("input", 5))], state.pending, state.gone)
        self.assert_same_state(after(state, ("input", (), "pair", (7, 8))), wanted)
        self.assertEqual(told(state, ("input", (), "pair", (7, 8))), ("input", (), "pair"))

    def test_the_moment(self):
        for moment in (0, 5, -3, 1000):
            behind, _ = apply(PROGRAM, state_of(), ("input", (), "halt", ()), moment)
            self.assertEqual(behind.waiting, [((), "halt", (), ("input", moment))])

    def test_to_a_child(self):
        state = state_of({(): main_being(), (0,): helper_being()})
        behind, words = apply(PROGRAM, state, ("input", (0,), "work", (1,)), 2)
        self.assertEqual((behind.waiting, words), ([((0,), "work", (1,), ("input", 2))], ("input", (0,), "work")))


class DeliverTests(unittest.TestCase, StateChecks):
    def test_the_message_no_longer_waits(self):
        messages = [((), "add", (number,), ("input", number)) for number in (1, 10, 100)]
        for k, number in enumerate((1, 10, 100)):
            wanted = state_of({(): Being("main", {"n": 4 + number})}, messages[:k] + messages[k + 1:])
            state = state_of(waiting=messages)
            self.assert_same_state(after(state, ("deliver", k)), wanted)
            self.assertEqual(told(state, ("deliver", k)), ("handled", (), "add", "done", None))

    def test_stop(self):
        behind, words = delivered(state_of(), (), "halt")
        self.assertEqual(words, ("handled", (), "halt", "stopped", None))
        self.assert_same_state(behind, state_of({(): Being("main", {"n": 9}, sent=1, mode="stopped")},
                                                [((), "add", (1,), ("sent", (), 0))]))

    def test_fail(self):
        behind, words = delivered(state_of(), (), "crash")
        self.assertEqual(words, ("handled", (), "crash", "failed", "fail"))
        self.assert_same_state(behind, state_of({(): main_being(mode="failed")}))
        behind, words = delivered(state_of(), (), "divide", (0,))
        self.assertEqual(words, ("handled", (), "divide", "failed", "zero"))
        self.assert_same_state(behind, state_of({(): main_being(mode="failed")}))
        self.assertEqual(delivered(state_of({(): Being("main", {"n": TOP})}), (), "add", (1,))[1],
                         ("handled", (), "add", "failed", "range"))

    def test_dropped(self):
        beings = {(): main_being(), (0,): helper_being(mode="stopped"), (1,): helper_being(mode="failed"),
                  (2,): helper_being()}
        state = state_of(beings, [((), "add", (7,), ("input", 1))], [(((), 0), "ring", (), None)], [(((), 0), "ring", ())])
        for path, message, arguments in (((3,), "work", (1,)), ((2, 0), "work", (1,)), ((-1,), "work", (1,)),
                                         ((0,), "work", (1,)), ((1,), "work", (1,)), ((2,), "add", (1,)), ((), "work", (1,)),
                                         ((2,), "work", ()), ((2,), "work", (1, 2)), ((), "nothing", ())):
            behind, words = delivered(state, path, message, arguments)
            self.assertEqual(words, ("dropped", path, message))
            self.assert_same_state(behind, state)

    def test_numbers_of_the_receiver_stay(self):
        state = state_of({(): main_being(spawned=2, sent=3, called=4)})
        behind, _ = delivered(state, (), "add", (1,))
        self.assert_same_state(behind, state_of({(): Being("main", {"n": 5}, spawned=2, sent=3, called=4)}))

    def test_messages_to_all_targets(self):
        state = state_of({(): main_being(), (1,): helper_being()}, [((), "halt", (), ("input", 1))])
        for child in (1, 5, -2):
            behind, _ = delivered(state, (), "talk", (child,))
            self.assertEqual(behind.waiting, [
                ((), "halt", (), ("input", 1)), ((), "add", (2,), ("sent", (), 1)),
                ((child,), "work", (3,), ("sent", (), 2)),
            ])
            self.assertEqual(behind.beings[()].sent, 3)

    def test_messages_of_the_main_actor_to_its_parent(self):
        behind, _ = delivered(state_of({(): main_being(sent=6)}), (), "talk", (0,))
        self.assertEqual([message[3] for message in behind.waiting], [("sent", (), 7), ("sent", (), 8)])
        self.assertEqual(behind.beings[()].sent, 9)

    def test_messages_of_children(self):
        beings = {(): main_being(), (1,): helper_being(), (1, 0): Being("main", {"n": 1})}
        behind, _ = delivered(state_of(beings), (1,), "work", (2,))
        self.assertEqual(behind.waiting, [((), "add", (52,), ("sent", (1,), 0))])
        behind, _ = delivered(state_of(beings), (1, 0), "talk", (4,))
        self.assertEqual(behind.waiting, [
            ((1,), "add", (1,), ("sent", (1, 0), 0)), ((1, 0), "add", (2,), ("sent", (1, 0), 1)),
            ((1, 0, 4), "work", (3,), ("sent", (1, 0), 2)),
        ])

    def test_spawn(self):
        behind, words = delivered(state_of(), (), "grow", (2,))
        self.assertEqual(words, ("handled", (), "grow", "done", None))
        self.assert_same_state(behind, state_of({(): main_being(spawned=1, sent=1), (0,): helper_being()},
                                                [((0,), "work", (0,), ("sent", (), 0))]))
        again, _ = delivered(behind, (), "grow", (1,))
        self.assertEqual(again.waiting[-1], ((1,), "work", (1,), ("sent", (), 1)))
        self.assertEqual(attributes(again.beings[(1,)]), attributes(Being("helper", {"k": 100, "m": 101})))
        self.assertEqual(again.beings[()].spawned, 2)

    def test_spawn_in_a_child(self):
        behind, _ = delivered(state_of({(): main_being(), (3,): helper_being(spawned=2)}), (3,), "nest")
        self.assertEqual(sorted(behind.beings), [(), (3,), (3, 2)])
        self.assertEqual((behind.beings[(3, 2)].kind, behind.beings[(3,)].spawned, behind.beings[()].spawned), ("main", 3, 0))

    def test_children_that_are_born_with_a_fault(self):
        behind, words = delivered(state_of(), (), "grow", (0,))
        self.assertEqual(words, ("handled", (), "grow", "done", None))
        failed = Being("helper", {"k": 0, "m": 0}, mode="failed")
        self.assert_same_state(behind, state_of({(): main_being(spawned=1, sent=1), (0,): failed},
                                                [((0,), "work", (0,), ("sent", (), 0))]))
        self.assertEqual(told(behind, ("deliver", 0)), ("dropped", (0,), "work"))

    def test_calls(self):
        old = (((), 0), "ring", ())
        state = state_of({(): main_being(called=1)}, [], [old + (None,)], [old])
        behind, _ = delivered(state, (), "pay", (8,))
        new = (((), 1), "pay", (8, 4))
        self.assert_same_state(behind, state_of({(): main_being(called=2)}, [], [old + (None,), new + ("add",)], [old, new]))
        behind, _ = delivered(behind, (), "ring")
        self.assertEqual(behind.pending[2], (((), 2), "ring", (), None))
        self.assertEqual(behind.gone[2], (((), 2), "ring", ()))

    def test_calls_of_children(self):
        behind, _ = delivered(state_of({(): main_being(called=5), (0,): helper_being(called=3)}), (0,), "ask")
        self.assertEqual(behind.pending, [(((0,), 3), "ring", (), "work"), (((0,), 4), "ring", (), "none")])
        self.assertEqual((behind.beings[(0,)].called, behind.beings[()].called), (5, 5))

    def test_deeds_of_one_run_in_order(self):
        body = [("call", "ring", [], None), ("send", ("self",), "b", []), ("spawn", "last", [], "c"),
                ("send", ("child", var("c")), "d", []), ("call", "ring", [], "e"), ("spawn", "last", [], "c"), STOP]
        program = Program([("ring", 0)], [Actor("main", [], [], [("a", [], body)]), Actor("last", [], [], [])])
        state = State({(): Being("main", {})}, [((), "a", (), ("input", 0))], [], [])
        behind, words = apply(program, state, ("deliver", 0), 1)
        self.assertEqual(words, ("handled", (), "a", "stopped", None))
        last = Being("last", {})
        self.assert_same_state(behind, State(
            {(): Being("main", {}, spawned=2, sent=2, called=2, mode="stopped"), (0,): last, (1,): last},
            [((), "b", (), ("sent", (), 0)), ((0,), "d", (), ("sent", (), 1))],
            [(((), 0), "ring", (), None), (((), 1), "ring", (), "e")], [(((), 0), "ring", ()), (((), 1), "ring", ())],
        ))


class AnswerTests(unittest.TestCase, StateChecks):
    CALLS = [(((), 0), "ring", (), None), (((0,), 2), "pay", (1, 2), "work"), (((), 1), "ring", (), "add")]

    def test_with_a_message(self):
        first = ((), "halt", (), ("input", 0))
        state = state_of({(): main_being(), (0,): helper_being()}, [first], self.CALLS, [(((), 9), "ring", ())])
        behind = after(state, ("answer", 1, -7))
        self.assert_same_state(behind, State(state.beings, [first, ((0,), "work", (-7,), ("answer", ((0,), 2)))],
                                             [self.CALLS[0], self.CALLS[2]], state.gone))
        self.assertEqual(told(state, ("answer", 1, -7)), ("answered", ((0,), 2)))
        behind = after(behind, ("answer", 1, 3))
        self.assertEqual(behind.waiting[-1], ((), "add", (3,), ("answer", ((), 1))))
        self.assertEqual(behind.pending, [self.CALLS[0]])

    def test_without_a_message(self):
        state = state_of(waiting=[((), "halt", (), ("input", 0))], pending=self.CALLS)
        self.assert_same_state(after(state, ("answer", 0, 5)), State(state.beings, state.waiting, self.CALLS[1:], []))
        self.assertEqual(told(state, ("answer", 0, 5)), ("answered", ((), 0)))

    def test_callers_that_are_not_on_or_have_no_handler(self):
        for mode in ("stopped", "failed"):
            state = state_of({(): main_being(mode=mode)}, [], [(((), 0), "ring", (), "nobody")])
            behind = after(state, ("answer", 0, 5))
            self.assertEqual(behind.waiting, [((), "nobody", (5,), ("answer", ((), 0)))])
            self.assertEqual(told(behind, ("deliver", 0)), ("dropped", (), "nobody"))


class Words:
    """An engine that reckons with anything, and notes what it is asked."""

    def __init__(self):
        self.asked = []

    def run(self, handler, states, spawned, arguments):
        self.asked.append(("run", handler[0], dict(states), spawned, arguments))
        deeds = [("spawn", "helper", ("P",)), ("send", ("self",), "again", ("Q", None)), ("call", "pay", ("R",), "done")]
        return Outcome("stopped", {"n": "new"}, deeds, "odd")

    def begin(self, actor, arguments):
        self.asked.append(("begin", actor.name, arguments))
        return {"k": "K"} if arguments == ("P",) else None


class EngineTests(unittest.TestCase, StateChecks):
    def test_plain(self):
        engine = Plain()
        outcome = engine.run(MAIN.handlers[0], {"n": 4}, 2, (3,))
        self.assertEqual(attributes(outcome), attributes(Outcome("done", {"n": 7}, [])))
        self.assertEqual(engine.run(MAIN.handlers[5], {"n": 4}, 2, (3,)).deeds[1][1], ("child", 2))
        self.assertEqual(engine.begin(HELPER, (2,)), {"k": 50, "m": 51})
        self.assertIsNone(engine.begin(HELPER, (0,)))

    def test_all_is_reckoned_by_the_engine(self):
        engine = Words()
        state = State({(): Being("main", {"n": "old"}, spawned=3, sent=1, called=2)}, [((), "add", ("A",), ("input", 0))], [], [])
        behind, words = apply_with(PROGRAM, state, ("deliver", 0), 1, engine)
        self.assertEqual(words, ("handled", (), "add", "stopped", "odd"))
        self.assertEqual(engine.asked, [("run", "add", {"n": "old"}, 3, ("A",)), ("begin", "helper", ("P",))])
        self.assert_same_state(behind, State(
            {(): Being("main", {"n": "new"}, spawned=4, sent=2, called=3, mode="stopped"), (3,): Being("helper", {"k": "K"})},
            [((), "again", ("Q", None), ("sent", (), 1))], [(((), 2), "pay", ("R",), "done")], [(((), 2), "pay", ("R",))],
        ))
        self.assertEqual(state.beings[()].states, {"n": "old"})

    def test_children_that_the_engine_cannot_begin(self):
        class Failing(Words):
            def begin(self, actor, arguments):
                return None

        state = state_of(waiting=[((), "add", (1,), ("input", 0))])
        behind, _ = apply_with(PROGRAM, state, ("deliver", 0), 1, Failing())
        self.assertEqual(attributes(behind.beings[(0,)]), attributes(Being("helper", {"k": 0, "m": 0}, mode="failed")))

    def test_arguments_and_answers_are_not_looked_at(self):
        behind, words = apply_with(PROGRAM, state_of(), ("input", (), "pair", ("X", None)), 4, Words())
        self.assertEqual((behind.waiting, words), ([((), "pair", ("X", None), ("input", 4))], ("input", (), "pair")))
        state = state_of(pending=[(((), 0), "ring", (), "add")])
        behind, words = apply_with(PROGRAM, state, ("answer", 0, "V"), 4, Words())
        self.assertEqual((behind.waiting, words), ([((), "add", ("V",), ("answer", ((), 0)))], ("answered", ((), 0))))

    def test_messages_that_are_dropped_are_not_run(self):
        engine = Words()
        state = state_of(waiting=[((), "add", (1, 2), ("input", 0)), ((0,), "add", (1,), ("input", 1))])
        for k in (0, 1):
            self.assertEqual(apply_with(PROGRAM, state, ("deliver", k), 4, engine)[1][0], "dropped")
        self.assertEqual(engine.asked, [])

    def test_what_the_engine_raises_goes_through(self):
        class Refusing(Words):
            def run(self, handler, states, spawned, arguments):
                raise Fault("mine")

        with self.assertRaises(Fault):
            apply_with(PROGRAM, state_of(waiting=[((), "add", (1,), ("input", 0))]), ("deliver", 0), 1, Refusing())

    def test_the_same_as_apply(self):
        for state, event in ((state_of(), ("input", (), "add", (1,))),
                             (state_of(waiting=[((), "grow", (0,), ("input", 0))]), ("deliver", 0)),
                             (state_of(pending=[(((), 0), "ring", (), "add")]), ("answer", 0, 1))):
            one, first = apply(PROGRAM, state, event, 3)
            other, second = apply_with(PROGRAM, state, event, 3, Plain())
            self.assert_same_state(one, other)
            self.assertEqual(first, second)


class NewStateTests(unittest.TestCase, StateChecks):
    def test_the_state_behind_an_event_shares_nothing_that_can_be_changed(self):
        beings = {(): main_being(), (0,): helper_being()}
        messages = [((), "grow", (1,), ("input", 0)), ((), "crash", (), ("input", 1)), ((5,), "add", (1,), ("input", 2))]
        call = (((), 0), "ring", ())
        for event in (("input", (), "add", (1,)), ("deliver", 0), ("deliver", 1), ("deliver", 2), ("answer", 0, 1)):
            state = State(beings, messages, [call + ("add",)], [call])
            kept = frozen(state)
            behind, _ = apply(PROGRAM, state, event, 9)
            for path in list(behind.beings):
                behind.beings[path].states["n"] = 1234
                behind.beings[path].mode = "changed"
            for part in (behind.beings, behind.waiting, behind.pending, behind.gone):
                part.clear()
            self.assert_same_state(state, kept)

    def test_the_states_of_an_outcome_are_copied(self):
        class Keeping(Plain):
            def run(self, handler, states, spawned, arguments):
                self.outcome = Plain.run(self, handler, states, spawned, arguments)
                return self.outcome

        engine = Keeping()
        behind, _ = apply_with(PROGRAM, state_of(waiting=[((), "add", (1,), ("input", 0))]), ("deliver", 0), 1, engine)
        behind.beings[()].states["n"] = 1234
        self.assertEqual(engine.outcome.states, {"n": 5})


class InputsTests(unittest.TestCase):
    def test_order(self):
        beings = {(1,): helper_being(), (0, 2): Being("main", {"n": 1}), (): main_being(), (0,): helper_being(mode="stopped"),
                  (10,): helper_being(), (2,): helper_being(mode="failed")}
        mains = [("add", 1), ("pair", 2), ("halt", 0), ("crash", 0), ("divide", 1), ("grow", 1), ("pay", 1), ("ring", 0),
                 ("talk", 1)]
        helpers = [("work", 1), ("nest", 0), ("ask", 0)]
        wanted = [((), *row) for row in mains] + [((0, 2), *row) for row in mains]
        wanted += [((1,), *row) for row in helpers] + [((10,), *row) for row in helpers]
        state = state_of(beings)
        kept = attributes(frozen(state))
        self.assertEqual(inputs_of(PROGRAM, state), wanted)
        self.assertEqual(attributes(state), kept)
        for path, message, count in wanted:
            self.assertTrue(is_possible(PROGRAM, state, ("input", path, message, (1,) * count)))

    def test_none(self):
        self.assertEqual(inputs_of(PROGRAM, state_of({(): main_being(mode="failed")})), [])
        self.assertEqual(inputs_of(PROGRAM, state_of({})), [])


class FactTests(unittest.TestCase):
    """Facts that hold for every program and every row of events."""

    def histories(self, many):
        for seed in range(many):
            maker = Maker(seed)
            program = maker.program()
            state = first_state(program)
            for moment in range(30):
                event = maker.event(state, inputs_of(program, state))
                if event is None:
                    break
                kept = attributes(frozen([program, state, event]))
                behind, words = apply(program, state, event, moment)
                self.assertEqual(attributes([program, state, event]), kept)
                yield program, state, event, moment, behind, words
                state = behind

    def test_facts(self):
        events = 0
        for program, state, event, moment, behind, words in self.histories(150):
            again, same_words = apply(program, state, event, moment)
            self.assertTrue(same_state(behind, again))
            self.assertEqual(words, same_words)
            origins = [message[3] for message in behind.waiting]
            self.assertEqual(len(set(origins)), len(origins))
            keys = [call[0] for call in behind.gone]
            self.assertEqual(len(set(keys)), len(keys))
            self.assertEqual(behind.gone[:len(state.gone)], state.gone)
            self.check_beings(state, behind, words)
            events += 1
        self.assertGreater(events, 1000)

    def check_beings(self, state, behind, words):
        for path, being in state.beings.items():
            changed = attributes(being) != attributes(behind.beings[path])
            if changed:
                self.assertEqual((words[0], words[1], being.mode), ("handled", path, "on"))


if __name__ == "__main__":
    unittest.main()
