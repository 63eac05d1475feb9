"""Point 57: for which ranges cases are made, and for which alone TooLarge is raised."""

import contextlib
import unittest
from unittest import mock

import retroact.reckoning
import retroact.ways
from retroact.cases import Unknown, make_cases, state_of, where
from retroact.errors import TooLarge
from retroact.program import Actor, Program
from retroact.unknown import parts_range

from tests.helpers import num, program_of, var
from tests.test_cases import CaseTestCase
from tests.unknowns import WIDE, Parter, balanced, fewest_cases, never, plain_run, steps

GO = [("input", (), "go", (3,)), ("deliver", 0)]
X = var("x")
N = [("n", num(4))]


def with_clear(body, states=(("n", num(0)),)):
    """Return a program with the handlers `go`, with this body, and `clear`, which sets n to 0."""
    handlers = [("go", ["x"], body), ("clear", [], [("set", "n", num(0))])]
    return Program([("pay", 1)], [Actor("main", [], list(states), handlers)])


CLEAR = GO + [("input", (), "clear", ()), ("deliver", 0)]


def remainder(name, bits):
    """Return statements that take the powers of 2 away from a name as often as it can be, the greatest first."""
    found = []
    for power in [2 ** k for k in range(bits)][::-1]:
        found.append(("if", ("atmost", num(power), var(name)), [("set", name, ("minus", var(name), num(power)))], []))
    return found


class LookTests(CaseTestCase):
    """How often a range must be looked at is no reason."""

    def test_comparisons_that_are_never_true(self):
        for last in (4499, 12000):
            program = program_of([("if", never(X, 0, last), [("fail",)], [])], ["x"], N)
            self.assertEqual(len(self.right_cases(program, GO, Unknown(0, 0, 0, last))), 1)

    def test_comparisons_that_are_true_for_one_number(self):
        condition = ("or", never(X, 0, 9999), ("same", X, num(777)))
        program = program_of([("if", condition, [("fail",)], [("set", "n", X)])], ["x"], N)
        cases = self.right_cases(program, GO, Unknown(0, 0, 0, 9999))
        self.assertEqual([(case.least, case.greatest) for case in cases], [(0, 776), (777, 777), (778, 9999)])

    def test_in_each_place_of_an_expression(self):
        hidden = never(X, 0, 4199)
        for body in ([("set", "n", ("plus", X, ("times", num(7), hidden)))], [("repeat", ("plus", num(2), hidden), [("set", "n", X)])],
                     [("send", ("child", hidden), "go", [hidden])], [("send", ("self",), "go", [("minus", X, hidden)])],
                     [("call", "pay", [hidden], None)], [("repeat", num(3), [("if", hidden, [("stop",)], [])])],
                     [("spawn", "kid", [("plus", X, hidden)], "c")], [("set", "n", ("times", ("negative", hidden), X))]):
            program = program_of(body, ["x"], N, [Actor("kid", ["p"], [("n", var("p"))], [])], [("pay", 1)])
            self.assertEqual(len(self.right_cases(program, GO, Unknown(0, 0, 0, 4199))), 1)

    def test_in_the_states_of_an_actor_that_is_born(self):
        states = [("n", ("plus", var("p"), never(var("p"), 0, 4199))), ("m", ("over", num(1), ("not", never(var("p"), 0, 4199))))]
        program = program_of([("spawn", "kid", [X], "c")], ["x"], N, [Actor("kid", ["p"], states, [])])
        case, = self.right_cases(program, GO, Unknown(0, 0, 0, 4199))
        self.assertEqual(case.state.beings[(0,)].states, {"n": (1, 0), "m": (0, 1)})

    def test_in_a_later_event(self):
        program = Program([], [Actor("main", [], N, [("go", ["x"], [("set", "n", X)]), ("try", [], [("if", never(var("n"), 0, 4199), [("stop",)], [])])])])
        events = GO + [("input", (), "try", ()), ("deliver", 0)] * 3
        self.assertEqual(len(self.right_cases(program, events, Unknown(0, 0, 0, 4199))), 1)

    def test_conditions(self):
        program = program_of([("set", "n", X)], ["x"], N)
        for last in (4499, 12000):
            unknown, hidden = Unknown(0, 0, 0, last), never(var("n"), 0, last)
            self.assertEqual(where(program, GO, unknown, (), hidden), [])
            self.assertEqual(where(program, GO, unknown, (), ("not", hidden)), [(0, last)])
            self.assertEqual(where(program, GO, unknown, (), ("or", hidden, ("same", var("n"), num(77)))), [(77, 77)])

    def test_conditions_over_numbers_of_many_forms(self):
        program = program_of([("set", "n", X)], ["x"], N)
        condition = ("less", steps(var("n"), 3, 1200), num(500))
        self.assertEqual(where(program, GO, Unknown(0, 0, 0, 4000), (), condition), [(2103, 4000)])

    def test_ends_of_a_condition_are_still_counted(self):
        """A condition that changes its answer for 400 numbers is like an `if` that does so."""
        program = program_of([("set", "n", X)], ["x"], N)
        alternating = balanced("or", [("same", var("n"), num(2 * k)) for k in range(1, 202)])
        self.assertEqual(len(where(program, GO, Unknown(0, 0, 2, 401), (), alternating)), 200)
        for greatest in (402, 1000, WIDE[1]):
            with self.assertRaises(TooLarge) as caught:
                where(program, GO, Unknown(0, 0, 2, greatest), (), alternating)
            self.assertEqual(caught.exception.limit, "cases")


class PieceTests(CaseTestCase):
    """How many pieces there are in between is no reason, if they differ in numbers alone and few cases tell all."""

    def test_numbers_that_differ_for_a_while(self):
        for many in (990, 1001, 8000):
            program = with_clear([("set", "n", steps(X, 3, many))])
            case, = self.right_cases(program, CLEAR, Unknown(0, 0, 0, 3 * many + 3))
            self.assertEqual(case.state.beings[()].states, {"n": (0, 0)})

    def test_numbers_that_differ_in_messages(self):
        for target in (("self",), ("child", num(4))):
            program = with_clear([("send", target, "clear", []), ("send", ("self",), "none", [steps(X, 3, 1500)])])
            case, = self.right_cases(program, GO + [("deliver", 1), ("deliver", 0)], Unknown(0, 0, *WIDE))
            self.assertEqual((case.told[-2][0], case.state.waiting), ("dropped", []))

    def test_numbers_that_differ_in_a_child(self):
        kid = Actor("kid", ["p"], [("n", steps(var("p"), 3, 1500))], [("go", ["x"], [("set", "n", X)])])
        program = program_of([("spawn", "kid", [X], "c"), ("send", ("child", var("c")), "go", [X])], ["x"], N, [kid])
        case, = self.right_cases(program, GO + [("deliver", 0)], Unknown(0, 0, *WIDE))
        self.assertEqual(case.state.beings[(0,)].states, {"n": (1, 0)})

    def test_numbers_that_differ_within_a_handler(self):
        program = program_of([("set", "y", steps(X, 2, 3000)), ("set", "n", ("minus", var("y"), var("y")))], ["x"], N)
        self.assertEqual(len(self.right_cases(program, GO, Unknown(0, 0, 0, 7000))), 1)

    def test_a_handler_that_fails_in_the_end(self):
        body = [("call", "pay", [steps(X, 3, 1500)], None), ("if", ("less", X, num(9)), [("call", "pay", [X], None)], []), ("fail",)]
        case, = self.right_cases(with_clear(body), GO, Unknown(0, 0, *WIDE))
        self.assertEqual((case.told[1][3:], case.state.gone), (("failed", "fail"), []))

    def test_numbers_that_differ_in_many_more_pieces_than_are_kept(self):
        """There are as many pieces as numbers, and the range is looked through in portions."""
        program = program_of([("set", "y", X)] + remainder("y", 16) + [("set", "n", var("y"))], ["x"], N)
        case, = self.right_cases(program, GO, Unknown(0, 0, 0, 2 ** 16 - 1))
        self.assertEqual(case.state.beings[()].states, {"n": (0, 0)})

    def test_ways_that_part_and_all_fail(self):
        sends = [("if", ("atmost", num(2 ** k), var("y")), [("set", "y", ("minus", var("y"), num(2 ** k))), ("send", ("self",), "go", [X])],
                  [("send", ("self",), "none", [X])]) for k in range(11)[::-1]]
        program = program_of([("set", "y", X)] + sends + [("fail",)], ["x"], N)
        case, = self.right_cases(program, GO, Unknown(0, 0, 0, 2 ** 11 - 1))
        self.assertEqual(case.told[1], ("handled", (), "go", "failed", "fail"))
        with self.assertRaises(TooLarge):
            make_cases(program_of([("set", "y", X)] + sends, ["x"], N), GO, Unknown(0, 0, 0, 2 ** 11 - 1))

    def test_times_of_a_repeat(self):
        """Only for 21 numbers the run does not fail."""
        body = [("repeat", ("minus", num(100), X), [("set", "n", ("plus", var("n"), ("times", X, X)))])]
        cases = self.right_cases(program_of(body, ["x"], N), GO, Unknown(0, 0, *WIDE))
        self.assertEqual([case.told[1][4] for case in cases if case.greatest < 80], ["range", "count"])
        self.assertEqual([case.told[1][4] for case in cases if case.least > 100], ["count"])


class FewestTests(CaseTestCase):
    """Where at most 400 cases tell all, cases are made, if nothing of point 57 holds."""

    def assert_large(self, program, unknown, events=tuple(GO)):
        with self.assertRaises(TooLarge) as caught:
            make_cases(program, list(events), unknown)
        self.assertEqual(caught.exception.limit, "cases")

    def test_400_and_401_cases(self):
        for length in (3, 2500000):
            program = with_clear([("set", "n", steps(X, length, 399))])
            for unknown in (Unknown(0, 0, 0, 400 * length), Unknown(0, 0, *WIDE)):
                cases = make_cases(program, GO, unknown)
                self.assertEqual(len(cases), 400)
                for at in (0, 1, 200, 398, 399):
                    for u in (cases[at].least, cases[at].greatest):
                        self.assertEqual(state_of(cases[at], u).beings[()].states, plain_run(program, GO, unknown, u)[2].beings[()].states)
            program = with_clear([("set", "n", steps(X, length, 400))])
            self.assert_large(program, Unknown(0, 0, 0, 400 * length))
            self.assert_large(program, Unknown(0, 0, *WIDE))
            self.assertEqual(len(make_cases(program, CLEAR, Unknown(0, 0, *WIDE))), 1)

    def test_runs_that_stop_for_400_and_401_parts(self):
        for many, is_large in ((399, False), (400, True)):
            tests = balanced("or", [("same", X, num(2 * k)) for k in range(1, many // 2 + 1)])
            program = with_clear([("if", ("or", tests, ("less", num(900 + many % 2), X)), [("stop",)], [])])
            unknown = Unknown(0, 0, 1, 1000)
            self.assertEqual(fewest_cases(program, GO, unknown), 2 * (many // 2) + 2)
            if is_large:
                self.assert_large(program, unknown)
            else:
                self.assertEqual(len(self.right_cases(program, GO, unknown)), 400)

    def test_two_numbers_are_always_one_case_if_they_differ_in_numbers_alone(self):
        program = with_clear([("set", "n", balanced("plus", [("same", X, num(2 * k)) for k in range(500)]))])
        for greatest in (399, 400, 799):
            cases = self.right_cases(program, GO, Unknown(0, 0, 0, greatest))
            self.assertEqual(fewest_cases(program, GO, Unknown(0, 0, 0, greatest)), greatest // 2 + 1)
            self.assertLessEqual(greatest // 2 + 1, len(cases))
        for greatest in (800, 801, 999):
            self.assert_large(program, Unknown(0, 0, 0, greatest))

    def test_cases_whose_ends_lie_within_a_form(self):
        """The numbers are 0 1 2 3 3 2 1 0, by three forms, though two would do: the 3 of the one in the middle are theirs."""
        m, n = var("m"), ("set", "n", ("minus", X, var("m")))
        below = ("if", ("less", X, ("plus", m, num(5))), [("set", "n", num(3))], [("set", "n", ("minus", ("plus", m, num(7)), X))])
        body = [("if", ("atmost", m, X), [("if", ("less", X, ("plus", m, num(3))), [n], [below])], []), ("set", "m", ("plus", m, num(8)))]
        program = with_clear([("repeat", num(15), [("repeat", num(10), body)])])
        for greatest, many in ((799, 200), (1199, 300)):
            unknown = Unknown(0, 0, 0, greatest)
            cases = make_cases(program, GO, unknown)
            self.assertTrue(many <= len(cases) <= 400)
            self.assertTrue(parts_range([(case.least, case.greatest) for case in cases], 0, greatest))
            for case in cases[::7] + cases[-3:]:
                for u in range(case.least, case.greatest + 1):
                    self.assertEqual(state_of(case, u).beings[()].states, {"n": (0, 1, 2, 3, 3, 2, 1, 0)[u % 8]})

    def test_never_without_a_reason(self):
        """Random programs without products, quotients and the like: TooLarge comes only if more cases are needed."""
        for seed in range(60):
            maker = Parter(seed + 7000, False)
            program = maker.program()
            expression = steps(X, maker.dice.choice((1, 2)), maker.dice.choice((150, 250, 450)))
            word, parameters, body = program.actors[0].handlers[0]
            first = [("set", maker.dice.choice(("n", "m", "t")), ("times", expression, num(maker.dice.choice((1, -1, 3)))))]
            program.actors[0].handlers[0] = (word, parameters, first + body)
            events = maker.events(program, 7)
            unknown = Unknown(0, 0, -20, maker.dice.choice((380, 480, 580)))
            try:
                self.right_cases(program, events, unknown)
            except TooLarge:
                self.assertGreater(fewest_cases(program, events, unknown), 400, seed)


class PortionTests(CaseTestCase):
    """Cases are the same whether a range is looked through at once or in portions."""

    @contextlib.contextmanager
    def little_room(self, segments, ways):
        with mock.patch.object(retroact.reckoning, "MOST_SEGMENTS", segments), mock.patch.object(retroact.ways, "MOST_WAYS", ways):
            yield

    def test_random_programs(self):
        for seed in range(120):
            maker = Parter(seed + 3000, seed % 3 == 0)
            program = maker.program()
            events = maker.events(program, 8)
            least = maker.dice.randint(-100, 0)
            unknown = Unknown(0, 0, least, least + maker.dice.choice((0, 1, 30, 130)))
            condition = maker.expression(["n", "m"], 3)
            ends = [(case.least, case.greatest) for case in self.right_cases(program, events, unknown)]
            answer = where(program, events, unknown, (), condition)
            for segments, ways in ((1, 1000), (2, 2), (5, 1), (50000, 1)):
                with self.little_room(segments, ways):
                    cases = self.right_cases(program, events, unknown)
                    self.assertLessEqual(len(cases), 2 * len(ends))
                    self.assertEqual(where(program, events, unknown, (), condition), answer, seed)

    def test_steps(self):
        program = with_clear([("set", "n", steps(X, 3, 50))])
        with self.little_room(7, 1000):
            self.assertEqual(len(self.right_cases(program, GO, Unknown(0, 0, 0, 200))), 51)
            self.assertEqual(len(self.right_cases(program, CLEAR, Unknown(0, 0, 0, 200))), 1)
            self.assertEqual(where(program, GO, Unknown(0, 0, 0, 200), (), ("less", var("n"), num(20))), [(93, 200)])

    def test_too_large_in_portions(self):
        program = with_clear([("set", "n", steps(X, 3, 400))])
        with self.little_room(20, 1000):
            with self.assertRaises(TooLarge):
                make_cases(program, GO, Unknown(0, 0, 0, 1200))
            self.assertEqual(len(make_cases(program, GO, Unknown(0, 0, 3, 1200))), 400)


class WholeRangeTests(CaseTestCase):
    def test_sums_of_bits(self):
        """Each number is put together again from what is taken from it, so that there is one form for all of them."""
        body = [("set", "y", X), ("set", "n", num(0))]
        for power in [2 ** k for k in range(10)][::-1]:
            taken = [("set", "y", ("minus", var("y"), num(power))), ("set", "n", ("plus", var("n"), num(power)))]
            body.append(("if", ("atmost", num(power), var("y")), taken, []))
        case, = self.right_cases(program_of(body, ["x"], N), GO, Unknown(0, 0, 0, 1023))
        self.assertEqual(case.state.beings[()].states, {"n": (1, 0)})
        cases = self.right_cases(program_of(body, ["x"], N), GO, Unknown(0, 0, *WIDE))
        self.assertEqual(len(cases), 3)

    def test_each_number_of_a_few_hundred_by_itself(self):
        program = program_of([("if", ("rest", X, num(2)), [("set", "n", ("times", X, X))], [("call", "pay", [("over", X, num(3))], None)])],
                             ["x"], N, effects=[("pay", 1)])
        for least in (-1000000000, -200, 0, 999999601):
            cases = self.right_cases(program, GO, Unknown(0, 0, least, least + 399))
            for case in cases:
                for u in range(case.least, case.greatest + 1):
                    self.assertEqual(case.told, plain_run(program, GO, Unknown(0, 0, u, u), u)[1])


if __name__ == "__main__":
    unittest.main()
