import unittest

from retroact.errors import ImpossibleEvent, InvalidMoment
from retroact.history import History, changes, states_of
from retroact.machine import Being, State, apply, first_state, same_state
from retroact.program import Actor, Program

from tests.helpers import attributes, frozen, num, var
from tests.samples import histories

ADD = ("add", ["x"], [("set", "n", ("plus", var("n"), var("x"))), ("call", "pay", [var("n")], "paid")])
PROGRAM = Program([("pay", 1)], [Actor("shop", [], [("n", num(4))], [ADD, ("paid", ["y"], [("stop",)])])])
EVENTS = [("input", (), "add", (3,)), ("deliver", 0), ("input", (), "add", (-2,)), ("input", (), "add", (0,)),
          ("deliver", 1), ("answer", 1, 8), ("deliver", 0), ("deliver", 0), ("answer", 0, 1)]
IMPOSSIBLE = [("deliver", 1), ("deliver", -1), ("answer", 2, 1), ("answer", 0, 1000000001), ("input", (0,), "add", (1,)),
              ("input", (), "add", ()), ("input", (), "paid", (1,))]


def history_of(program, events, every=8):
    history = History(program, every=every)
    for event in events:
        history.record(event)
    return history


def plain_states(program, events):
    """Return the states behind 0, 1, .. events, each of them reckoned from the first state on."""
    states = [first_state(program)]
    for moment, event in enumerate(events):
        states.append(apply(program, states[-1], event, moment)[0])
    return states


class RecordTests(unittest.TestCase):
    def test_what_is_told(self):
        history = History(PROGRAM)
        told = [history.record(event) for event in EVENTS[:2]]
        self.assertEqual(told, [("input", (), "add"), ("handled", (), "add", "done", None)])
        self.assertEqual(history.told(), told)
        self.assertEqual(history.events(), EVENTS[:2])
        self.assertIs(history.program, PROGRAM)

    def test_without_events(self):
        history = History(PROGRAM)
        self.assertEqual((history.events(), history.told(), history.kept()), ([], [], [0]))
        self.assertTrue(same_state(history.state_at(0), first_state(PROGRAM)))

    def test_moments_of_events(self):
        history = history_of(PROGRAM, EVENTS[:4])
        self.assertEqual([message[3] for message in history.state_at(4).waiting], [("input", 2), ("input", 3)])

    def test_impossible_events_change_nothing(self):
        for every in (1, 3, 9, 10):
            history = history_of(PROGRAM, EVENTS, every)
            before = attributes(frozen([history.events(), history.told(), history.kept()]))
            states = [attributes(history.state_at(moment)) for moment in range(10)]
            for event in IMPOSSIBLE:
                with self.assertRaises(ImpossibleEvent) as caught:
                    history.record(event)
                self.assertEqual(caught.exception.event, event)
                self.assertEqual(attributes([history.events(), history.told(), history.kept()]), before)
                self.assertEqual([attributes(history.state_at(moment)) for moment in range(10)], states)
            with self.assertRaises(InvalidMoment):
                history.state_at(10)

    def test_recording_goes_on_behind_an_impossible_event(self):
        history = History(PROGRAM)
        with self.assertRaises(ImpossibleEvent):
            history.record(("deliver", 0))
        history.record(EVENTS[0])
        self.assertEqual(history.state_at(1).waiting, [((), "add", (3,), ("input", 0))])

    def test_lists_are_new(self):
        history = history_of(PROGRAM, EVENTS)
        for method in (history.events, history.told, history.kept):
            kept = frozen(method())
            method().clear()
            self.assertEqual(method(), kept)
        history.record(("deliver", 0))
        self.assertEqual(len(history.events()), 10)


class StateAtTests(unittest.TestCase):
    def test_each_moment(self):
        for program, events in [(PROGRAM, EVENTS)] + histories(20, 20):
            states = plain_states(program, events)
            for every in (1, 2, 3, 8, 100):
                history = history_of(program, events, every)
                for moment, state in enumerate(states):
                    self.assertTrue(same_state(history.state_at(moment), state), (every, moment))

    def test_forgotten_moments(self):
        states = plain_states(PROGRAM, EVENTS)
        for every in (1, 2, 3, 8):
            for forgotten in ([0, 1, 2], [4, 6], [6, 4, 3], [8, 9], list(range(10)), [3]):
                history = history_of(PROGRAM, EVENTS, every)
                history.forget(forgotten)
                for moment in list(range(10)) + list(range(9, -1, -1)):
                    self.assertTrue(same_state(history.state_at(moment), states[moment]), (every, forgotten, moment))

    def test_recording_behind_forgotten_moments(self):
        history = history_of(PROGRAM, EVENTS[:6], 2)
        history.forget([2, 4, 6])
        for event in EVENTS[6:]:
            history.record(event)
        self.assertEqual(history.kept(), [0, 8])
        for moment, state in enumerate(plain_states(PROGRAM, EVENTS)):
            self.assertTrue(same_state(history.state_at(moment), state))

    def test_invalid_moments(self):
        for events in ([], EVENTS[:3], EVENTS):
            history = history_of(PROGRAM, events)
            for moment in (-2, -1, len(events) + 1, len(events) + 8):
                for method in (history.state_at, history.cut):
                    with self.assertRaises(InvalidMoment) as caught:
                        method(moment)
                    self.assertEqual(caught.exception.moment, moment)

    def test_returned_states_may_be_changed(self):
        for every in (1, 2, 100):
            history = history_of(PROGRAM, EVENTS[:6], every)
            kept = [attributes(frozen(history.state_at(moment))) for moment in range(7)]
            for moment in range(7):
                state = history.state_at(moment)
                state.beings[()].states["n"] = 99
                state.beings[()].mode = "stopped"
                state.beings[(7,)] = Being("shop", {"n": 1})
                for rows in (state.waiting, state.pending, state.gone):
                    rows.append(None)
                self.assertEqual([attributes(history.state_at(moment)) for moment in range(7)], kept)
            history.record(EVENTS[6])
            self.assertTrue(same_state(history.state_at(7), plain_states(PROGRAM, EVENTS)[7]))


class KeptTests(unittest.TestCase):
    def test_moments_that_are_kept(self):
        for every, kept in ((1, list(range(10))), (2, [0, 2, 4, 6, 8]), (3, [0, 3, 6, 9]), (4, [0, 4, 8]), (9, [0, 9]),
                            (10, [0])):
            self.assertEqual(history_of(PROGRAM, EVENTS, every).kept(), kept)
        history = History(PROGRAM)
        for event in EVENTS:
            history.record(event)
        self.assertEqual(history.kept(), [0, 8])

    def test_every_is_passed_by_name(self):
        with self.assertRaises(TypeError):
            History(PROGRAM, 8)

    def test_forget(self):
        history = history_of(PROGRAM, EVENTS, 2)
        moments = [6, 0, 3, 6, -2, 100, 2]
        self.assertIsNone(history.forget(moments))
        self.assertEqual(moments, [6, 0, 3, 6, -2, 100, 2])
        self.assertEqual(history.kept(), [0, 4, 8])
        history.forget(history.kept())
        self.assertEqual(history.kept(), [0])
        history.forget([])
        self.assertEqual(history.kept(), [0])

    def test_moments_to_come_are_not_forgotten(self):
        history = history_of(PROGRAM, EVENTS[:3], 2)
        history.forget([4])
        for event in EVENTS[3:]:
            history.record(event)
        self.assertEqual(history.kept(), [0, 2, 4, 6, 8])

    def test_looking_at_a_state_does_not_keep_it(self):
        history = history_of(PROGRAM, EVENTS, 4)
        history.forget([4])
        history.state_at(4)
        history.state_at(5)
        self.assertEqual(history.kept(), [0, 8])


class CutTests(unittest.TestCase):
    def test_first_events(self):
        states = plain_states(PROGRAM, EVENTS)
        for every in (1, 2, 8):
            history = history_of(PROGRAM, EVENTS, every)
            for moment in range(10):
                shorter = history.cut(moment)
                self.assertIs(shorter.program, PROGRAM)
                self.assertEqual(shorter.events(), EVENTS[:moment])
                self.assertEqual(shorter.told(), history.told()[:moment])
                self.assertEqual(shorter.kept(), [at for at in range(moment + 1) if at % every == 0])
                for at in range(moment + 1):
                    self.assertTrue(same_state(shorter.state_at(at), states[at]))
                with self.assertRaises(InvalidMoment):
                    shorter.state_at(moment + 1)

    def test_neither_history_changes_the_other(self):
        history = history_of(PROGRAM, EVENTS, 1)
        shorter = history.cut(4)
        shorter.record(("deliver", 0))
        shorter.forget([1, 2])
        self.assertEqual(history.events(), EVENTS)
        self.assertEqual(history.kept(), list(range(10)))
        history.record(("deliver", 0))
        history.forget([3])
        self.assertEqual(shorter.events(), EVENTS[:4] + [("deliver", 0)])
        self.assertEqual((len(shorter.told()), shorter.kept()), (5, [0, 3, 4, 5]))
        for moment, state in enumerate(plain_states(PROGRAM, EVENTS[:4] + [("deliver", 0)])):
            self.assertTrue(same_state(shorter.state_at(moment), state))
        for moment, state in enumerate(plain_states(PROGRAM, EVENTS + [("deliver", 0)])):
            self.assertTrue(same_state(history.state_at(moment), state))


class StatesOfTests(unittest.TestCase):
    def test_all_moments(self):
        for program, events in [(PROGRAM, EVENTS), (PROGRAM, [])] + histories(20, 12):
            kept = attributes(frozen([program, events]))
            states = states_of(program, events)
            expected = plain_states(program, events)
            self.assertEqual(len(states), len(events) + 1)
            self.assertTrue(all([same_state(state, other) for state, other in zip(states, expected)]))
            self.assertEqual(attributes([program, events]), kept)

    def test_states_share_nothing(self):
        states = states_of(PROGRAM, EVENTS)
        kept = attributes(frozen(states))
        for at, state in enumerate(states):
            state.beings[()].states["n"] = 99
            state.beings.clear()
            state.waiting.append(None)
            self.assertEqual(attributes(states[at + 1:]), kept[at + 1:])

    def test_the_first_event_that_is_not_possible(self):
        for event in IMPOSSIBLE:
            with self.assertRaises(ImpossibleEvent) as caught:
                states_of(PROGRAM, EVENTS + [event, ("deliver", 50)])
            self.assertEqual(caught.exception.event, event)


class ChangesTests(unittest.TestCase):
    def check(self, first, second, expected):
        kept = attributes(frozen([first, second]))
        self.assertEqual(changes(first, second), expected)
        self.assertEqual(attributes([first, second]), kept)

    def test_nothing(self):
        for state in states_of(PROGRAM, EVENTS):
            self.check(state, state, [])
        self.check(State({}, [], [], []), State({}, [], [], []), [])

    def test_born_and_missing(self):
        one = State({(): Being("a", {"n": 1}), (2,): Being("b", {})}, [], [], [])
        two = State({(10,): Being("b", {}), (): Being("a", {"n": 1}), (2, 0): Being("b", {}), (3,): Being("b", {})},
                    [], [], [])
        self.check(one, two, [("missing", (2,)), ("born", (2, 0)), ("born", (3,)), ("born", (10,))])
        self.check(two, one, [("born", (2,)), ("missing", (2, 0)), ("missing", (3,)), ("missing", (10,))])

    def test_states_by_ascending_names(self):
        one = State({(): Being("a", {"z": 1, "b": 2, "aa": 3, "a": 4})}, [], [], [])
        two = State({(): Being("a", {"z": 5, "b": 2, "aa": -3, "a": 0})}, [], [], [])
        self.check(one, two, [("state", (), "a", 4, 0), ("state", (), "aa", 3, -3), ("state", (), "z", 1, 5)])

    def test_modes(self):
        one = State({(): Being("a", {"n": 1}), (1,): Being("a", {"n": 1}, mode="failed")}, [], [], [])
        two = State({(): Being("a", {"n": 2}, mode="stopped"), (1,): Being("a", {"n": 1})}, [], [], [])
        self.check(one, two, [("state", (), "n", 1, 2), ("mode", (), "on", "stopped"), ("mode", (1,), "failed", "on")])

    def test_other_kinds_at_the_same_path(self):
        one = State({(): Being("a", {"n": 1, "m": 2}), (0,): Being("a", {"n": 1})}, [], [], [])
        two = State({(): Being("b", {"n": 2}), (0,): Being("c", {"n": 9}, mode="failed")}, [], [], [])
        self.check(one, two, [("kind", (), "a", "b"), ("kind", (0,), "a", "c"), ("mode", (0,), "on", "failed")])

    def test_numbers_of_beings_are_no_changes(self):
        one = State({(): Being("a", {})}, [], [], [])
        two = State({(): Being("a", {}, spawned=1, sent=2, called=3)}, [], [], [(((), 0), "pay", (1,))])
        self.check(one, two, [])

    def test_waiting_messages(self):
        def waits(*origins):
            return State({}, [((), "go", (), origin) for origin in origins], [], [])

        a, b, c = ("sent", (3,), 9), ("input", 12), ("answer", ((), 1))
        d, e = ("input", 3), ("sent", (), 2)
        self.check(waits(a, b, c), waits(c, e, b, d), [("waits", e), ("waits", d), ("came", a)])
        self.check(waits(b, d, e), waits(), [("came", b), ("came", d), ("came", e)])
        self.check(waits(), waits(e, a, b), [("waits", e), ("waits", a), ("waits", b)])
        self.check(waits(a, b), waits(b, a), [])

    def test_only_origins_and_keys_count(self):
        one = State({}, [((), "go", (1,), ("input", 0))], [(((), 0), "pay", (1,), None)], [])
        two = State({}, [((0,), "come", (), ("input", 0))], [(((), 0), "ring", (), "go")], [])
        self.check(one, two, [])

    def test_pending_calls(self):
        def calls(*keys):
            return State({}, [], [(key, "pay", (1,), None) for key in keys], [])

        a, b, c, d = ((), 3), ((), 0), ((2,), 1), ((1,), 7)
        self.check(calls(a, b), calls(c, b, d), [("calls", c), ("calls", d), ("closed", a)])
        self.check(calls(c, a, d), calls(), [("closed", c), ("closed", a), ("closed", d)])

    def test_the_order_of_all(self):
        one = State({(): Being("a", {"n": 1}), (0,): Being("a", {})}, [((), "go", (), ("input", 0))],
                    [(((), 0), "pay", (1,), None)], [])
        two = State({(): Being("a", {"n": 2}, mode="stopped"), (1,): Being("a", {})}, [((), "go", (), ("input", 1))],
                    [(((), 1), "pay", (1,), None)], [])
        self.check(one, two, [
            ("state", (), "n", 1, 2), ("mode", (), "on", "stopped"), ("missing", (0,)), ("born", (1,)),
            ("waits", ("input", 1)), ("came", ("input", 0)), ("calls", ((), 1)), ("closed", ((), 0)),
        ])

    def test_changes_of_a_history(self):
        states = states_of(PROGRAM, EVENTS)
        self.check(states[0], states[2], [("state", (), "n", 4, 7), ("calls", ((), 0))])
        self.check(states[5], states[6], [("waits", ("answer", ((), 1))), ("closed", ((), 1))])
        self.check(states[2], states[0], [("state", (), "n", 7, 4), ("closed", ((), 0))])


if __name__ == "__main__":
    unittest.main()
