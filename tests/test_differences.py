import unittest

from retroact.branches import branch
from retroact.differences import calls_since, difference
from retroact.history import states_of
from retroact.machine import State
from retroact.patches import Patch, same_patch
from retroact.program import Actor, Program

from tests.helpers import attributes, frozen, num, var
from tests.samples import histories


def call(path, n, effect="pay", arguments=(1,)):
    return ((path, n), effect, arguments)


class DifferenceTests(unittest.TestCase):
    def check(self, past, now, expected):
        kept = frozen([past, now])
        self.assertEqual(difference(past, now), expected)
        self.assertEqual([past, now], kept)

    def test_nothing(self):
        self.check([], [], ([], [], []))
        self.assertIsInstance(difference([], []), tuple)

    def test_calls_that_are_the_same(self):
        calls = [call((), 0), call((0,), 0, "ring", ()), call((), 1, "pay", (1, -2))]
        self.check(calls, list(calls), ([calls[0], calls[2], calls[1]], [], []))

    def test_calls_that_one_side_alone_has(self):
        one, two, three = call((), 0), call((), 1), call((), 2)
        self.check([one, two], [two, three], ([two], [one], [three]))
        self.check([one, two], [], ([], [one, two], []))
        self.check([], [one, two], ([], [], [one, two]))

    def test_calls_that_differ_in_one_part_alone(self):
        one = call((1,), 2, "pay", (5, 6))
        for other in (call((1,), 2, "ring", (5, 6)), call((1,), 2, "pay", (5, 7)), call((1,), 2, "pay", (6, 5)),
                      call((1,), 2, "pay", (5,)), call((1,), 2, "pay", (5, 6, 0)), call((1,), 3, "pay", (5, 6)),
                      call((), 2, "pay", (5, 6)), call((1, 1), 2, "pay", (5, 6))):
            self.check([one], [other], ([], [one], [other]))
            self.check([other], [one], ([], [other], [one]))

    def test_the_order_of_keys(self):
        keys = [((), 0), ((), 2), ((), 10), ((0,), 3), ((0, 5), 0), ((0, 10), 0), ((1,), 9), ((1, 0), 1), ((2,), 0),
                ((10,), 0), ((10,), 7), ((10,), 12)]
        # The effects and the arguments would give other orders.
        calls = [(key, "zyx"[at % 3], (-at,)) for at, key in enumerate(keys)]
        mixed = calls[5:] + calls[4::-1]
        self.check(mixed, [], ([], calls, []))
        self.check([], mixed, ([], [], calls))
        self.check(mixed, mixed[::-1], (calls, [], []))

    def test_lists_are_new(self):
        past, now = [call((), 0), call((), 1)], [call((), 0), call((), 2)]
        for rows in difference(past, now):
            rows.clear()
        self.assertEqual((len(past), len(now)), (2, 2))


class CallsSinceTests(unittest.TestCase):
    def check(self, earlier, later, expected):
        states = [State({}, [], [], earlier), State({}, [], [], later)]
        kept = attributes(frozen(states))
        self.assertEqual(calls_since(states[0], states[1]), expected)
        self.assertEqual(attributes(states), kept)

    def test_later_calls_in_their_order(self):
        calls = [call((1,), 0), call((), 0), call((2,), 5, "ring", ()), call((), 1), call((0,), 0)]
        for many in range(6):
            self.check(calls[:many], calls, calls[many:])

    def test_calls_of_histories(self):
        for program, events in histories(20, 20):
            states = states_of(program, events)
            for moment, state in enumerate(states):
                self.assertEqual(state.gone + calls_since(state, states[-1]), states[-1].gone)
                self.assertEqual(calls_since(state, state), [])

    def test_the_list_is_new(self):
        state = State({}, [], [], [call((), 0)])
        calls_since(State({}, [], [], []), state).clear()
        self.assertEqual(state.gone, [call((), 0)])


class BranchTests(unittest.TestCase):
    def test_calls_of_a_history_and_a_branch(self):
        def program(second):
            body = [("call", "pay", [var("x")], None), ("if", ("less", num(3), var("x")), second, [])]
            return Program([("pay", 1), ("ring", 0)], [Actor("main", [], [], [("go", ["x"], body)])])

        old, new = program([("call", "pay", [num(0)], None)]), program([("call", "ring", [], None)])
        same = same_patch(old)
        events = [("input", (), "go", (n,)) for n in (9, 2, 5)] + [("deliver", 0)] * 3
        one = branch(old, events, 4, Patch(new, same.kinds, same.effects))
        past = states_of(old, events)
        there = calls_since(past[4], past[6])
        here = calls_since(one.first, one.states[-1])
        self.assertEqual(there, [call((), 2, "pay", (2,)), call((), 3, "pay", (5,)), call((), 4, "pay", (0,))])
        self.assertEqual(difference(there, here), (there[:2], there[2:], [call((), 4, "ring", ())]))


if __name__ == "__main__":
    unittest.main()
