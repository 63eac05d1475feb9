import unittest

from retroact.cases import Case, Unknown, accepts_cases, make_cases, state_of
from retroact.errors import InvalidUnknown, TooLarge
from retroact.machine import Being, State, same_state
from retroact.reader import read_program
from retroact.unknown import parts_range

from tests.helpers import attributes, frozen, num, program_of, var
from tests.unknowns import WIDE, Parter, plain_run

SHOP = """effect pay 1
effect ring 2
actor shop
  state n = 4
  state m = 0
  on add(x)
    {}
  end
  on paid(y)
    set m = m + y
  end
  on halt
    stop
  end
end
actor part(size)
  state share = {}
  on go(x)
    set share = share + x
    send parent paid(share)
  end
end
"""
ADD = [("input", (), "add", (3,)), ("deliver", 0)]


def shop(body, share="size"):
    return read_program(SHOP.format(body.replace(";", "\n    "), share))


def some_of(case):
    """Return numbers of a case: all of a few, otherwise those at its ends and some between them."""
    if case.greatest - case.least < 130:
        return range(case.least, case.greatest + 1)
    step = (case.greatest - case.least) // 7
    return sorted({case.least, case.least + 1, case.greatest - 1, case.greatest, *range(case.least, case.greatest, step)})


class CaseTestCase(unittest.TestCase):
    def right_cases(self, program, events, unknown):
        """Return the cases that are made, after they were tried against the plain machine."""
        before = attributes(frozen([program, events, unknown]))
        cases = make_cases(program, events, unknown)
        self.assertTrue(parts_range([(case.least, case.greatest) for case in cases], unknown.least, unknown.greatest))
        self.assertLessEqual(len(cases), 400)
        for case in cases:
            for u in some_of(case):
                done, told, state = plain_run(program, events, unknown, u)
                self.assertEqual((case.done, case.told), (done, told), u)
                self.assertTrue(same_state(state_of(case, u), state), u)
        self.assertTrue(accepts_cases(program, events, unknown, cases))
        self.assertEqual(attributes([program, events, unknown]), before)
        return cases

    def intervals(self, program, events, unknown):
        return [(case.least, case.greatest) for case in self.right_cases(program, events, unknown)]

    def starts(self, body, events=tuple(ADD), least=-60, greatest=60):
        """Return the least numbers of the cases of a shop whose handler `add` has this body."""
        return [first for first, _ in self.intervals(shop(body), list(events), Unknown(0, 0, least, greatest))]


class MadeCasesTests(CaseTestCase):
    def test_one_case(self):
        case, = self.right_cases(shop("set n = n + x; call pay(x * 2 - n) then paid"), ADD, Unknown(0, 0, -100, 100))
        self.assertEqual((case.least, case.greatest, case.done), (-100, 100, 2))
        self.assertEqual(case.told, [("input", (), "add"), ("handled", (), "add", "done", None)])
        self.assertEqual(case.state.beings[()].states, {"n": (1, 4), "m": (0, 0)})
        self.assertEqual(case.state.pending, [(((), 0), "pay", ((1, -4),), "paid")])
        self.assertEqual(case.state.gone, [(((), 0), "pay", ((1, -4),))])

    def test_all_numbers_are_forms(self):
        events = [("input", (), "paid", (5,)), ("input", (), "add", (3,)), ("deliver", 1), ("answer", 0, 8)]
        case, = self.right_cases(shop("send self paid(7); call pay(1) then paid"), events, Unknown(1, 0, 0, 9))
        self.assertEqual([row[2] for row in case.state.waiting], [((0, 5),), ((0, 7),), ((0, 8),)])
        self.assertEqual(case.state.gone[0][2], ((0, 1),))
        self.assertEqual(case.state.beings[()].states, {"n": (0, 4), "m": (0, 0)})

    def test_the_unknown_waits(self):
        program = read_program("actor main\n  on two(a, b)\n  end\nend")
        case, = self.right_cases(program, [("input", (), "two", (3, 4)), ("input", (), "two", (5, 6))], Unknown(1, 1, 0, 9))
        self.assertEqual([row[2] for row in case.state.waiting], [((0, 3), (0, 4)), ((0, 5), (1, 0))])
        case, = self.right_cases(program, [("input", (), "two", (3, 4))], Unknown(0, 0, *WIDE))
        self.assertEqual((case.done, case.state.waiting[0][2]), (1, ((1, 0), (0, 4))))

    def test_a_range_of_one_number(self):
        program = shop("set n = x * x; if x < 3; set m = 1; end; call pay(x + n); call pay(x)")
        for u in (-7, 0, 2, 3, 31000, 40000, *WIDE):
            case, = self.right_cases(program, ADD, Unknown(0, 0, u, u))
            self.assertEqual((case.least, case.greatest), (u, u))
            state = plain_run(program, ADD, Unknown(0, 0, u, u), u)[2]
            self.assertTrue(same_state(state_of(case, u), state))
            self.assertEqual(case.state.beings[()].states, {name: (0, n) for name, n in state.beings[()].states.items()})
            self.assertEqual([row[2] for row in case.state.gone], [tuple([(0, n) for n in row[2]]) for row in state.gone])

    def test_ranges_of_a_few_numbers(self):
        for least in range(-4, 5):
            for many in range(1, 5):
                for body in ("set n = 10 / x", "set n = x rest 3 + x * x", "repeat x; set n = n * x; end", "if x = 2; fail; end"):
                    self.right_cases(shop(body), ADD, Unknown(0, 0, least, least + many - 1))

    def test_comparisons(self):
        self.assertEqual(self.starts("if x < 7; stop; end"), [-60, 7])
        self.assertEqual(self.starts("if x <= 7; stop; end"), [-60, 8])
        self.assertEqual(self.starts("if x = 7; stop; end"), [-60, 7, 8])
        self.assertEqual(self.starts("if x > 7; stop; end"), [-60, 8])
        self.assertEqual(self.starts("if x + n >= 2 * x - 3; stop; end"), [-60, 8])
        self.assertEqual(self.starts("if x; stop; end"), [-60, 0, 1])
        self.assertEqual(self.starts("if not x; stop; end"), [-60, 0, 1])
        self.assertEqual(self.starts("if 2 * x = 7; stop; end"), [-60])
        self.assertEqual(self.starts("if 2 * x < 7; stop; end"), [-60, 4])
        self.assertEqual(self.starts("if 0 - 2 * x < 7; stop; end"), [-60, -3])

    def test_values_of_comparisons(self):
        cases = self.right_cases(shop("set n = (x < 7) * 5 + (x = 3); set m = (x < 7) * x"), ADD, Unknown(0, 0, -60, 60))
        self.assertEqual([case.least for case in cases], [-60, 3, 4, 7])

    def test_choices(self):
        self.assertEqual(self.starts("if x < 3 and x > -5; stop; end"), [-60, -4, 3])
        self.assertEqual(self.starts("if x < -5 or x > 3; stop; end"), [-60, -5, 4])
        # The second part is not reckoned, and has no fault, where the first part decides.
        self.assertEqual(self.starts("if x < 3 or 1 / 0; stop; end"), [-60, 3])
        self.assertEqual(self.starts("if x < 3 and 1 / 0; stop; end"), [-60, 3])
        self.assertEqual(self.starts("if x < 3; if x < -3; stop; else; fail; end; else; set m = x; end"), [-60, -3, 3])

    def test_forms_that_meet_are_one_case(self):
        self.assertEqual(self.starts("if x < 3; set n = x; else; set n = x; end"), [-60])
        self.assertEqual(self.starts("if x = 3; set n = 3; else; set n = x; end"), [-60])
        self.assertEqual(self.starts("repeat 20; set m = m + 1; if x = m; set n = n + 1; end; end; set n = 0"), [-60])
        # A single number ahead of others, behind them, and beside another single one.
        self.assertEqual(self.starts("if x = 3; set n = 3; else; set n = x; end", ADD, 3, 60), [3])
        self.assertEqual(self.starts("if x = 3; set n = 3; else; set n = x; end", ADD, -60, 3), [-60])
        self.assertEqual(self.starts("if x = 3; set n = 10; else; set n = x; end", ADD, 3, 4), [3])

    def test_forms_that_meet_at_one_end_alone(self):
        self.assertEqual(self.starts("if x < 3; set n = 3; else; set n = x; end"), [-60, 3])
        self.assertEqual(self.starts("if x < 3; set n = 2; else; set n = x; end"), [-60, 3])
        self.assertEqual(self.starts("if x < 3; set n = x; else; set n = 3; end"), [-60, 3])
        self.assertEqual(self.starts("if x < 3; set n = 2 * x - 3; else; set n = x; end"), [-60, 3])

    def test_forms_that_do_not_meet_are_cases_of_their_own(self):
        for other in (0, 2, 4, 10):
            self.assertEqual(self.starts(f"if x = 3; set n = {other}; else; set n = x; end"), [-60, 3, 4])
            self.assertEqual(self.starts(f"if x = 3; set n = {other}; else; set n = x; end", ADD, 3, 60), [3, 4])
            self.assertEqual(self.starts(f"if x = 3; set n = {other}; else; set n = x; end", ADD, -60, 3), [-60, 3])
            self.assertEqual(self.starts(f"if x < 3; set n = {other}; else; set n = x; end", ADD, 1, 60), [1, 3])

    def test_repeats(self):
        self.assertEqual(self.starts("repeat 3; set n = n + x; end; repeat n < 10; stop; end"), [-60, 2])
        cases = self.right_cases(shop("repeat x; set n = n + x; end"), ADD, Unknown(0, 0, -60, 60))
        self.assertEqual({case.told[1][4] for case in cases if case.greatest < 0 or case.least > 20}, {"count"})

    def test_products_quotients_and_rests(self):
        for body in ("set n = x * x", "set n = x * n * x", "set n = x / 7", "set n = x / -7", "set n = x rest 7", "set n = x rest -7",
                     "set n = 100 / x", "set n = 100 rest x", "set n = x / x", "set n = (6 * x + 5) / 3", "set n = (6 * x + 5) rest -3",
                     "set n = (x - x) * x", "set n = (0 - x) / 4 + x / 4", "set n = -x * (x - 1) rest 5", "set n = x * x / (x + 1)"):
            self.right_cases(shop(body), ADD, Unknown(0, 0, -200, 199))
        case, = self.right_cases(shop("set n = (6 * x + 5) / 3; set m = (6 * x + 5) rest 3"), ADD, Unknown(0, 0, -100, 1000))
        self.assertEqual(case.state.beings[()].states, {"n": (2, 1), "m": (0, 2)})

    def test_faults_of_every_reason(self):
        for body, reason, starts in (("set n = 999999990 + x", "range", [-60, 11]), ("set n = 0 - 999999990 - x", "range", [-60, 11]),
                                     ("set n = 99999999 * x", "range", [-60, -10, 11]), ("if x > 5; fail; end; stop", "fail", [-60, 6]),
                                     ("if x > 5; set n = x / 0; end; stop", "zero", [-60, 6]),
                                     ("if x > 5; set n = x rest 0; end; stop", "zero", [-60, 6]),
                                     ("repeat 21 - (x < 5); set n = 2; end", "count", [-60, 5]),
                                     ("repeat (x < 5) - 1; set n = 2; end; stop", "count", [-60, 5]),
                                     ("repeat 3; repeat 20; send self paid(x); end; end; if x < 2; call pay(x); end; stop", "deeds", [-60, 2])):
            cases = self.right_cases(shop(body), ADD, Unknown(0, 0, -60, 60))
            self.assertEqual([case.least for case in cases], starts)
            self.assertEqual({case.told[1][4] for case in cases} - {None}, {reason})

    def test_divisors_that_are_unknown(self):
        cases = self.right_cases(shop("set n = 5 / x; stop"), ADD, Unknown(0, 0, -3, 3))
        self.assertEqual([case.told[1][3:] for case in cases if case.least <= 0 <= case.greatest], [("failed", "zero")])

    def test_stops_and_fails(self):
        events = ADD + [("input", (), "halt", ())]
        cases = self.right_cases(shop("if x < 0; stop; end; if x > 9; fail; end"), events, Unknown(0, 0, -60, 60))
        self.assertEqual([(case.least, case.done, case.state.beings[()].mode) for case in cases],
                         [(-60, 2, "stopped"), (0, 3, "on"), (10, 2, "failed")])

    def test_events_that_are_not_possible_for_some_numbers(self):
        events = ADD + [("deliver", 0), ("answer", 1, 4), ("deliver", 0)]
        body = "if x > 2; send self paid(x); end; if x > 5; call pay(x) then paid; end; if x > 7; call pay(x); end"
        cases = self.right_cases(shop(body), events, Unknown(0, 0, 0, 20))
        self.assertEqual([(case.least, case.done) for case in cases], [(0, 2), (3, 3), (6, 3), (8, 4)])

    def test_events_that_are_not_possible_ahead_of_the_unknown(self):
        for first in (("deliver", 0), ("answer", 0, 1), ("input", (), "none", ()), ("input", (), "add", (1000000001,)), ("input", (5,), "add", (1,))):
            case, = self.right_cases(shop("set n = x"), [("input", (), "add", (1,)), ("deliver", 0), first] + ADD, Unknown(3, 0, *WIDE))
            self.assertEqual(case.done, 2)
            self.assertEqual(case.state.beings[()].states, {"n": (0, 1), "m": (0, 0)})

    def test_the_input_itself_is_not_possible(self):
        for event in (("input", (0,), "add", (3,)), ("input", (), "add", (3, 4)), ("input", (), "more", (3,))):
            case, = self.right_cases(shop("stop"), [event], Unknown(0, 0, 0, 9))
            self.assertEqual((case.done, case.told), (0, []))
        # Another argument of it is no value; the replaced one need not be one.
        program = read_program("actor main\n  on two(a, b)\n  end\nend")
        case, = self.right_cases(program, [("input", (), "two", (1, 1000000001))], Unknown(0, 0, 0, 9))
        self.assertEqual(case.done, 0)
        case, = self.right_cases(program, [("input", (), "two", (1, 1000000001))], Unknown(0, 1, 0, 9))
        self.assertEqual(case.done, 1)

    def test_the_unknown_is_never_delivered(self):
        events = [("input", (), "add", (1,)), ("input", (), "add", (2,)), ("deliver", 0)]
        case, = self.right_cases(shop("set n = 10 / x; if n > 3; stop; end"), events, Unknown(1, 0, *WIDE))
        self.assertEqual(case.state.waiting, [((), "add", ((1, 0),), ("input", 1))])
        # Dropped, as the actor has stopped.
        case, = self.right_cases(shop("stop"), events + [("deliver", 0)], Unknown(1, 0, *WIDE))
        self.assertEqual((case.told[-1], case.state.waiting), (("dropped", (), "add"), []))

    def test_children(self):
        body = "spawn part(x) as a; spawn part(10) as b; send child(b) go(x); send child(a) go(1); if x > 4; send child(x) go(2); end"
        events = ADD + [("deliver", 0)] * 5
        for share in ("size", "size * 3 - 1", "100 / size", "(size < 3) * size"):
            cases = self.right_cases(shop(body, share), events, Unknown(0, 0, -5, 8))
            self.assertGreater(len(cases), 1)

    def test_children_that_fail_at_birth(self):
        cases = self.right_cases(shop("spawn part(x) as a; set n = a", "999999990 + size"), ADD, Unknown(0, 0, 0, 20))
        self.assertEqual([(case.least, case.state.beings[(0,)].mode) for case in cases], [(0, "on"), (11, "failed")])
        self.assertEqual([case.state.beings[(0,)].states for case in cases], [{"share": (1, 999999990)}, {"share": (0, 0)}])
        case, = self.right_cases(shop("spawn part(x) as a", "1 / 0"), ADD, Unknown(0, 0, *WIDE))
        self.assertEqual((case.state.beings[(0,)].mode, case.state.beings[(0,)].states), ("failed", {"share": (0, 0)}))

    def test_children_that_are_born_for_some_numbers(self):
        cases = self.right_cases(shop("if x > 4; spawn part(x) as a; end"), ADD, Unknown(0, 0, 0, 20))
        self.assertEqual([(case.least, sorted(case.state.beings)) for case in cases], [(0, [()]), (5, [(), (0,)])])

    def test_the_number_of_a_child(self):
        cases = self.right_cases(shop("send child(x) go(x)"), ADD + [("deliver", 0)], Unknown(0, 0, -5, 8))
        self.assertEqual([case.state.beings[()].sent for case in cases], [1] * 14)
        self.assertEqual(cases[0].told[-1], ("dropped", (-5,), "go"))

    def test_messages_and_answers(self):
        body = "send self paid(2 * x); call pay(x) then paid; call pay(3); call ring(x, 0 - x) then none"
        events = ADD + [("deliver", 0), ("answer", 0, 9), ("deliver", 0), ("answer", 1, 9), ("deliver", 0)]
        case, = self.right_cases(shop(body), events, Unknown(0, 0, -400000000, 400000000))
        self.assertEqual(case.state.beings[()].states["m"], (2, 9))
        self.assertEqual(case.state.gone[2], (((), 2), "ring", ((1, 0), (-1, 0))))

    def test_states_that_a_failed_run_leaves(self):
        cases = self.right_cases(shop("set n = x; call pay(x); if x > 3; fail; end"), ADD, Unknown(0, 0, 0, 9))
        self.assertEqual([case.state.beings[()].states["n"] for case in cases], [(1, 0), (0, 4)])
        self.assertEqual([len(case.state.gone) for case in cases], [1, 0])

    def test_later_events_of_other_inputs(self):
        events = ADD + [("input", (), "add", (5,)), ("deliver", 0), ("input", (), "paid", (7,)), ("deliver", 0)]
        for moment in (0, 2, 4):
            self.right_cases(shop("set n = n + x; if n > 12; set m = n; end"), events, Unknown(moment, 0, -50, 50))

    def test_deep_expressions(self):
        deep = ("name", "x")
        for at in range(199):
            deep = ("plus", num(0), deep) if at % 2 else ("minus", num(1), deep)
        long = ("name", "x")
        for _ in range(199):
            long = ("plus", long, num(1))
        for expression in (deep, long):
            program = program_of([("set", "n", expression)], ["x"], [("n", num(0))])
            self.right_cases(program, [("input", (), "go", (3,)), ("deliver", 0)], Unknown(0, 0, -1000, 1000))

    def test_random_programs(self):
        parted = large = 0
        for seed in range(400):
            maker = Parter(seed, seed % 2 == 0)
            program = maker.program()
            events = maker.events(program, 12)
            moments = [moment for moment, event in enumerate(events) if event[0] == "input"]
            unknown = Unknown(maker.dice.choice(moments), 0, *maker.range())
            try:
                parted += len(self.right_cases(program, events, unknown)) > 1
            except TooLarge as error:
                large += 1
                self.assertEqual(error.limit, "cases")
                self.assertTrue(maker.is_hard and unknown.greatest - unknown.least >= 400)
        self.assertGreater(parted, 80)
        self.assertLess(large, 30)


class WideTests(CaseTestCase):
    def test_one_case_for_all_values(self):
        self.assertEqual(self.starts("set n = x / 1; call pay(0 - x)", ADD, *WIDE), [WIDE[0]])

    def test_sums_differences_products_and_comparisons(self):
        body = "set n = n + 2 * x; if n > 1000; set n = n - 1000; call pay(n); else; if x < -77; stop; end; end; set m = x - n"
        self.assertEqual(self.starts(body, ADD, *WIDE), [WIDE[0], -500000000, -77, 499, 499999999])

    def test_ends_are_exact(self):
        for number in (-1000000000, -999999999, -123456789, 0, 999999998, 999999999):
            program = program_of([("if", ("atmost", var("x"), num(number)), [("stop",)], [])], ["x"])
            found = self.intervals(program, [("input", (), "go", (3,)), ("deliver", 0)], Unknown(0, 0, *WIDE))
            self.assertEqual(found, [(WIDE[0], number), (number + 1, WIDE[1])])

    def test_many_events(self):
        events = [("input", (), "add", (3,))] + [event for k in range(40) for event in (("deliver", 0), ("input", (), "add", (k,)))]
        body = "set n = n + x; if n > 100; set n = n - 150; set m = m + 1; end"
        cases = self.right_cases(shop(body), events, Unknown(0, 0, -1000, 100))
        self.assertGreater(len(cases), 3)

    def test_few_changes_among_many_comparisons(self):
        """More than 400 comparisons turn out otherwise, but what comes of them is the same."""
        body = "repeat 20; repeat 20; set m = m + 1; if x < m * 3; set n = 1; else; set n = 2; end; end; end; set n = 0; set m = 0"
        self.assertEqual(self.starts(body, ADD, *WIDE), [WIDE[0]])

    def test_numbers_that_a_later_event_makes_alike(self):
        events = ADD + [("input", (), "paid", (5,)), ("deliver", 0)]
        text = SHOP.format("repeat 20; repeat 15; set m = m + 1; if x < m * 5; set n = n + 1; end; end; end; set m = 0".replace(";", "\n"), "size")
        program = read_program(text.replace("set m = m + y", "set n = y"))
        cases = self.right_cases(program, events, Unknown(0, 0, *WIDE))
        self.assertEqual(len(cases), 1)

    def test_hundreds_of_cases(self):
        body = "repeat 20; repeat 19; set m = m + 1; if x < m * 7; stop; end; end; end"
        self.assertEqual(len(self.starts(body, ADD, *WIDE)), 381)


class TooLargeTests(CaseTestCase):
    HARD = ("set n = x * x * x", "set n = x * x rest 7", "set n = x rest 2", "set n = 1000000000 / x * (x rest 2)", "send child(x) go(x); set n = 0")

    def test_never_for_400_numbers(self):
        for body in self.HARD + ("repeat x; set n = n + x * x; end; if n rest 2; stop; else; fail; end",
                                 "if x rest 2; stop; end", "if x * x rest 3 = 1; call pay(x); end"):
            for least in (-200, 1000, -1000000000):
                self.assertLessEqual(len(self.starts(body, ADD, least, least + 399)), 400)
        self.assertEqual(len(self.starts("if x rest 2; stop; end", ADD, 1, 400)), 400)

    def test_more_cases_than_there_may_be(self):
        for body in ("if x rest 2; stop; end", "set n = x * x", "send child(x) go(x)", "repeat (x rest 20) + 1; call pay(x); end"):
            with self.assertRaises(TooLarge) as caught:
                make_cases(shop(body), ADD, Unknown(0, 0, *WIDE))
            self.assertEqual(caught.exception.limit, "cases")
        with self.assertRaises(TooLarge):
            make_cases(shop("if x rest 2; stop; end"), ADD, Unknown(0, 0, 1, 401))
        with self.assertRaises(TooLarge):
            make_cases(shop("repeat 20; repeat 20; set m = m + 1; if x < m * 7; stop; end; end; end; if x < 7000; stop; end"), ADD, Unknown(0, 0, *WIDE))

    def test_hard_programs_that_have_few_cases(self):
        """They may be refused for more than 400 numbers; if they are not, their cases are right."""
        for body in self.HARD + ("set n = x / 10", "set n = x / 10; set n = 0", "set n = x * (x - x)"):
            for unknown in (Unknown(0, 0, 0, 400), Unknown(0, 0, -1500, 1500), Unknown(0, 0, *WIDE)):
                try:
                    self.right_cases(shop(body), ADD, unknown)
                except TooLarge:
                    pass
        self.assertEqual(self.starts("set n = x * (x - x) + (x < 5) * x", ADD, *WIDE), [WIDE[0], 5])


class UnknownTests(unittest.TestCase):
    EVENTS = ADD + [("answer", 0, 5), ("input", (), "halt", ())]

    def refused(self, *row):
        with self.assertRaises(InvalidUnknown):
            make_cases(shop("call pay(x)"), self.EVENTS, Unknown(*row))

    def test_attributes(self):
        unknown = Unknown(3, 1, -4, 9)
        self.assertEqual((unknown.moment, unknown.index, unknown.least, unknown.greatest), (3, 1, -4, 9))
        state = State({}, [], [], [])
        case = Case(-4, 9, 1, [("input", (), "add")], state)
        self.assertEqual((case.least, case.greatest, case.done, case.told, case.state), (-4, 9, 1, [("input", (), "add")], state))

    def test_moments(self):
        for moment in (-1, -4, 4, 100):
            self.refused(moment, 0, 0, 9)

    def test_events_that_are_no_inputs(self):
        self.refused(1, 0, 0, 9)
        self.refused(2, 0, 0, 9)
        self.refused(2, 1, 0, 9)

    def test_indexes(self):
        for index in (-1, 1, 5):
            self.refused(0, index, 0, 9)
        self.refused(3, 0, 0, 9)

    def test_ranges(self):
        self.refused(0, 0, 5, 4)
        self.refused(0, 0, -1000000001, 5)
        self.refused(0, 0, 5, 1000000001)
        self.refused(0, 0, 1000000001, 1000000001)
        self.refused(0, 0, -1000000002, -1000000001)

    def test_ends_of_values(self):
        for least, greatest in ((4, 4), WIDE, (WIDE[0], WIDE[0]), (WIDE[1], WIDE[1])):
            self.assertEqual(len(make_cases(shop("set n = x"), self.EVENTS, Unknown(0, 0, least, greatest))), 1)

    def test_an_event_that_is_not_possible_may_be_the_unknown_one(self):
        case, = make_cases(shop("stop"), [("input", (7,), "none", (1, 2))], Unknown(0, 1, 0, 9))
        self.assertEqual((case.done, case.told), (0, []))

    def test_invalid_comes_before_too_large(self):
        with self.assertRaises(InvalidUnknown):
            make_cases(shop("set n = x * x"), self.EVENTS, Unknown(0, 1, *WIDE))


def remade(case, **others):
    """Return a case like another one, but for some attributes."""
    worths = dict(least=case.least, greatest=case.greatest, done=case.done, told=case.told, state=case.state)
    worths.update(others)
    return Case(**worths)


def with_states(state, path, **others):
    """Return a state in which a being has other attributes."""
    beings = dict(state.beings)
    worths = dict(vars(beings[path]))
    worths.update(others)
    kind, states = worths.pop("kind"), worths.pop("states")
    beings[path] = Being(kind, states, **worths)
    return State(beings, state.waiting, state.pending, state.gone)


class AcceptTests(unittest.TestCase):
    def setUp(self):
        self.program = shop("set n = n + x; if x > 9; call pay(n) then paid; spawn part(x) as a; end; send self paid(x)")
        self.events = ADD + [("input", (), "add", (3,))]
        self.unknown = Unknown(0, 0, 0, 50)
        self.cases = make_cases(self.program, self.events, self.unknown)
        self.assertEqual([(case.least, case.greatest) for case in self.cases], [(0, 9), (10, 50)])

    def accepts(self, cases):
        before = attributes(frozen(cases))
        found = accepts_cases(self.program, self.events, self.unknown, cases)
        self.assertEqual(attributes(cases), before)
        return found

    def accepts_instead(self, at, **others):
        cases = list(self.cases)
        cases[at] = remade(cases[at], **others)
        return self.accepts(cases)

    def test_cases_that_are_made(self):
        self.assertTrue(self.accepts(self.cases))

    def test_finer_cases(self):
        first, second = self.cases
        self.assertTrue(self.accepts([remade(first, greatest=3), remade(first, least=4), remade(second, greatest=10), remade(second, least=11)]))
        singles = [remade(self.cases[u > 9], least=u, greatest=u) for u in range(51)]
        self.assertTrue(self.accepts(singles))
        self.assertFalse(self.accepts(singles[::-1]))
        # For a single number each form with the same value is right.
        state = with_states(singles[7].state, (), states={"n": (0, 11), "m": (3, -21)})
        self.assertTrue(self.accepts(singles[:7] + [remade(singles[7], state=state)] + singles[8:]))
        state = with_states(singles[7].state, (), states={"n": (0, 11), "m": (3, -20)})
        self.assertFalse(self.accepts(singles[:7] + [remade(singles[7], state=state)] + singles[8:]))

    def test_more_than_400_cases(self):
        program, unknown = shop("set n = x"), Unknown(0, 0, 0, 999)
        case, = make_cases(program, ADD, unknown)
        self.assertTrue(accepts_cases(program, ADD, unknown, [remade(case, least=u, greatest=u) for u in range(1000)]))

    def test_gaps_overlaps_and_other_ranges(self):
        first, second = self.cases
        self.assertFalse(self.accepts([]))
        self.assertFalse(self.accepts([first]))
        self.assertFalse(self.accepts([second]))
        self.assertFalse(self.accepts([second, first]))
        self.assertFalse(self.accepts([first, first, second]))
        self.assertFalse(self.accepts([remade(first, least=0, greatest=-1), first, second]))
        self.assertFalse(self.accepts([first, remade(first, least=10, greatest=9), second]))
        self.assertFalse(self.accepts([remade(first, greatest=8), second]))
        self.assertFalse(self.accepts([first, remade(second, least=11)]))
        self.assertFalse(self.accepts([first, remade(second, least=9)]))
        self.assertFalse(self.accepts([remade(first, least=1), second]))
        self.assertFalse(self.accepts([remade(first, least=-1), second]))
        self.assertFalse(self.accepts([first, remade(second, greatest=49)]))
        self.assertFalse(self.accepts([first, remade(second, greatest=51)]))

    def test_ends_that_were_moved(self):
        first, second = self.cases
        self.assertFalse(self.accepts([remade(first, greatest=10), remade(second, least=11)]))
        self.assertFalse(self.accepts([remade(first, greatest=8), remade(second, least=9)]))
        self.assertFalse(self.accepts([remade(first, greatest=50)]))
        self.assertFalse(self.accepts([remade(second, least=0)]))

    def test_numbers_of_events_and_what_is_told(self):
        told = self.cases[0].told
        for at in (0, 1):
            for done in (0, 2, 4):
                self.assertFalse(self.accepts_instead(at, done=done))
            for other in (told[:2], told + told[:1], [told[1], told[0], told[2]], [], [told[0], ("handled", (), "add", "stopped", None), told[2]]):
                self.assertFalse(self.accepts_instead(at, told=other))
        self.assertFalse(self.accepts_instead(0, done=2, told=told[:2]))

    def test_forms_of_states(self):
        for at in (0, 1):
            state = self.cases[at].state
            self.assertTrue(self.accepts_instead(at, state=with_states(state, (), states={"m": (0, 0), "n": (1, 4)})))
            for states in ({"n": (1, 5), "m": (0, 0)}, {"n": (2, 4), "m": (0, 0)}, {"n": (0, 4), "m": (0, 0)}, {"n": (1, 4)},
                           {"n": (1, 4), "m": (0, 0), "k": (0, 0)}, {"n": (1, 4), "k": (0, 0)}, {"n": (-1, 54), "m": (0, 0)}):
                self.assertFalse(self.accepts_instead(at, state=with_states(state, (), states=states)))

    def test_forms_that_are_right_at_one_end_alone(self):
        state = self.cases[0].state
        for form in ((0, 4), (2, 4), (2, -5), (0, 13)):
            self.assertFalse(self.accepts_instead(0, state=with_states(state, (), states={"n": form, "m": (0, 0)})))

    def test_beings(self):
        state = self.cases[1].state
        for others in (dict(kind="part"), dict(spawned=2), dict(sent=0), dict(called=0), dict(mode="stopped")):
            self.assertFalse(self.accepts_instead(1, state=with_states(state, (), **others)))
        self.assertFalse(self.accepts_instead(1, state=with_states(state, (0,), states={"share": (1, 1)})))
        self.assertFalse(self.accepts_instead(1, state=State({(): state.beings[()]}, state.waiting, state.pending, state.gone)))
        self.assertFalse(self.accepts_instead(0, state=State(state.beings, self.cases[0].state.waiting, [], [])))

    def test_messages_and_calls(self):
        state = self.cases[1].state
        path, message, forms, origin = state.waiting[0]
        for row in ((path, message, ((1, 1),), origin), (path, message, ((0, 10),), origin), (path, message, (), origin), (path, "add", forms, origin),
                    ((0,), message, forms, origin), (path, message, forms, ("sent", (), 1)), (path, message, forms + forms, origin)):
            self.assertFalse(self.accepts_instead(1, state=State(state.beings, [row] + state.waiting[1:], state.pending, state.gone)))
        self.assertFalse(self.accepts_instead(1, state=State(state.beings, state.waiting[::-1], state.pending, state.gone)))
        for pending, gone in (([], state.gone), (state.pending, []), ([(((), 0), "pay", ((1, 5),), "paid")], state.gone),
                              ([(((), 0), "pay", ((1, 4),), None)], state.gone), ([(((), 1), "pay", ((1, 4),), "paid")], state.gone),
                              (state.pending, [(((), 0), "pay", ((2, 4),))]), (state.pending, [(((), 0), "ring", ((1, 4),))]),
                              (state.pending, state.gone * 2)):
            self.assertFalse(self.accepts_instead(1, state=State(state.beings, state.waiting, pending, gone)))

    def test_a_range_of_all_values(self):
        program, unknown = shop("if x > 3; set n = x - 1; else; set n = 2; end"), Unknown(0, 0, *WIDE)
        cases = make_cases(program, ADD, unknown)
        self.assertTrue(accepts_cases(program, ADD, unknown, cases))
        # At 3 both forms are 2: the end may lie on either side of it.
        for end, is_right in ((2, True), (3, True), (4, False), (1, False)):
            moved = [remade(cases[0], greatest=end), remade(cases[-1], least=end + 1)]
            self.assertEqual(accepts_cases(program, ADD, unknown, moved), is_right)

    def test_hard_programs(self):
        program, unknown = shop("set n = x * x; if x rest 3; stop; end"), Unknown(0, 0, -30, 30)
        cases = make_cases(program, ADD, unknown)
        self.assertTrue(accepts_cases(program, ADD, unknown, cases))
        for at, case in enumerate(cases):
            slope, start = case.state.beings[()].states["n"]
            state = with_states(case.state, (), states={"n": (slope, start + 1), "m": (0, 0)})
            self.assertFalse(accepts_cases(program, ADD, unknown, cases[:at] + [remade(case, state=state)] + cases[at + 1:]))


class StateOfTests(unittest.TestCase):
    def test_numbers_are_put_into_all_forms(self):
        being = Being("shop", {"n": (2, 1), "m": (0, -3)}, spawned=1, sent=2, called=3, mode="stopped")
        state = State({(): being, (4,): Being("part", {})}, [((), "add", ((1, 0), (-1, 5)), ("input", 3))],
                      [(((), 1), "pay", ((3, 0),), None)], [(((), 0), "ring", ()), (((), 1), "pay", ((3, 0),))])
        case = Case(0, 9, 4, [], state)
        before = attributes(frozen(case))
        found = state_of(case, 7)
        self.assertEqual(attributes(found.beings[()]), dict(kind="shop", states={"n": 15, "m": -3}, spawned=1, sent=2, called=3, mode="stopped"))
        self.assertEqual(found.waiting, [((), "add", (7, -2), ("input", 3))])
        self.assertEqual(found.pending, [(((), 1), "pay", (21,), None)])
        self.assertEqual(found.gone, [(((), 0), "ring", ()), (((), 1), "pay", (21,))])
        found.beings[(4,)].mode = "failed"
        found.beings[()].states["n"] = 0
        found.waiting.clear()
        self.assertEqual(attributes(case), before)

    def test_cases_share_nothing(self):
        program = shop("set n = n + x; if x > 5; set m = 1; end")
        unknown = Unknown(0, 0, 0, 9)
        first, second = make_cases(program, ADD, unknown)
        first.state.beings[()].states["n"] = (0, 0)
        first.told.clear()
        self.assertEqual(second.told, make_cases(program, ADD, unknown)[1].told)
        self.assertEqual(second.state.beings[()].states["n"], (1, 4))
        self.assertEqual(make_cases(program, ADD, unknown)[0].state.beings[()].states["n"], (1, 4))


if __name__ == "__main__":
    unittest.main()
