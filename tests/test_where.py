import unittest

from retroact.cases import Unknown, where
from retroact.errors import Fault, InvalidUnknown, TooLarge
from retroact.reader import read_program
from retroact.values import evaluate

from tests.helpers import attributes, frozen, num, var
from tests.unknowns import WIDE, Parter, plain_run

ADD = [("input", (), "add", (3,)), ("deliver", 0)]


def shop(body):
    return read_program("actor shop\n  state n = 4\n  state m = 0\n  on add(x)\n{}\n  end\nend\nactor part(size)\n  state n = 1 / size\nend"
                        .format(body.replace(";", "\n")))


ADDS = shop("set n = n + x")


def less(a, b):
    return ("less", a, b)


class WhereTests(unittest.TestCase):
    def answer(self, program, condition, unknown=Unknown(0, 0, -50, 50), path=(), events=tuple(ADD)):
        """Return the answer, after it was tried against the plain machine, for each number if there are not many."""
        events = list(events)
        before = attributes(frozen([program, events, unknown, condition]))
        found = where(program, events, unknown, path, condition)
        self.assertEqual(attributes([program, events, unknown, condition]), before)
        self.assertTrue(all([a <= b for a, b in found]))
        self.assertTrue(all([first[1] + 1 < second[0] for first, second in zip(found, found[1:])]))
        numbers = range(unknown.least, unknown.greatest + 1)
        if len(numbers) > 402:
            numbers = sorted({u for a, b in found for u in (a - 1, a, b, b + 1) if u in numbers} | {*numbers[:2], *numbers[-2:]})
        for u in numbers:
            states = plain_run(program, events, unknown, u)[2].beings
            try:
                is_so = path in states and evaluate(condition, states[path].states) != 0
            except Fault:
                is_so = False
            self.assertEqual(any([a <= u <= b for a, b in found]), is_so, u)
        return found

    def test_everywhere_and_nowhere(self):
        self.assertEqual(self.answer(ADDS, num(1)), [(-50, 50)])
        self.assertEqual(self.answer(ADDS, num(-7)), [(-50, 50)])
        self.assertEqual(self.answer(ADDS, num(0)), [])
        self.assertEqual(self.answer(ADDS, less(var("n"), num(1000))), [(-50, 50)])
        self.assertEqual(self.answer(ADDS, less(num(1000), var("n"))), [])

    def test_intervals(self):
        self.assertEqual(self.answer(ADDS, less(num(8), var("n"))), [(5, 50)])
        self.assertEqual(self.answer(ADDS, var("n")), [(-50, -5), (-3, 50)])
        self.assertEqual(self.answer(ADDS, ("same", var("n"), num(4))), [(0, 0)])
        self.assertEqual(self.answer(ADDS, ("or", less(var("n"), num(-20)), less(num(20), var("n")))), [(-50, -25), (17, 50)])
        self.assertEqual(self.answer(ADDS, ("not", ("same", ("rest", var("n"), num(20)), num(0)))),
                         [(-50, -45), (-43, -25), (-23, -5), (-3, 15), (17, 35), (37, 50)])

    def test_intervals_that_touch_are_one(self):
        program = shop("if x < 0; set n = 1; else; if x < 20; set n = 2; else; set n = 3; end; end")
        self.assertEqual(self.answer(program, var("n")), [(-50, 50)])
        self.assertEqual(self.answer(program, less(var("n"), num(3))), [(-50, 19)])
        self.assertEqual(self.answer(program, ("not", ("same", var("n"), num(2)))), [(-50, -1), (20, 50)])
        self.assertEqual(self.answer(ADDS, ("or", less(var("n"), num(7)), less(num(6), var("n")))), [(-50, 50)])

    def test_a_fault_for_some_numbers(self):
        self.assertEqual(self.answer(ADDS, ("plus", var("n"), num(1000000000))), [(-50, -4)])
        self.assertEqual(self.answer(ADDS, ("over", num(100), var("n"))), [(-50, -5), (-3, 50)])
        self.assertEqual(self.answer(ADDS, ("over", num(1), num(0))), [])
        self.assertEqual(self.answer(ADDS, ("not", ("over", num(10), var("n")))), [(7, 50)])
        self.assertEqual(self.answer(ADDS, ("or", less(var("n"), num(9)), ("over", num(1), num(0)))), [(-50, 4)])
        self.assertEqual(self.answer(ADDS, num(1000000001)), [])

    def test_an_actor_that_is_not_there_for_some_numbers(self):
        program = shop("if x < 5; spawn part(x - 2) as a; end")
        self.assertEqual(self.answer(program, num(1), path=(0,)), [(-50, 4)])
        # The states of an actor that failed at its birth are 0.
        self.assertEqual(self.answer(program, var("n"), path=(0,)), [(-50, 1), (3, 3)])
        self.assertEqual(self.answer(program, num(1), path=(1,)), [])
        self.assertEqual(self.answer(program, num(1), path=()), [(-50, 50)])

    def test_an_actor_of_another_kind_for_some_numbers(self):
        program = read_program("actor shop\n on add(x)\n if x < 5\n spawn one as a\n else\n spawn two(x) as b\n end\n end\nend\n"
                               "actor one\n state n = 7\nend\nactor two(k)\n state m = 3\n state n = k\nend")
        self.assertEqual(self.answer(program, less(num(6), var("n")), path=(0,)), [(-50, 4), (7, 50)])

    def test_actors_that_are_not_on(self):
        self.assertEqual(self.answer(shop("set n = x; stop"), less(var("n"), num(0))), [(-50, -1)])
        self.assertEqual(self.answer(shop("set n = x; fail"), ("same", var("n"), num(4))), [(-50, 50)])

    def test_events_that_are_not_possible(self):
        events = ADD + [("deliver", 0), ("input", (), "add", (1,))]
        self.assertEqual(self.answer(shop("set n = x; if x > 9; send self add(5); end"), less(var("n"), num(7)), events=events),
                         [(-50, 6), (10, 50)])

    def test_all_values(self):
        self.assertEqual(self.answer(ADDS, less(num(999999999), var("n")), Unknown(0, 0, *WIDE)), [(999999996, 999999996)])
        self.assertEqual(self.answer(ADDS, less(var("n"), num(4)), Unknown(0, 0, *WIDE)), [(WIDE[0], -1)])
        # The sum is no value for the last numbers: there the run has failed, and the state is as it was.
        self.assertEqual(self.answer(ADDS, ("same", var("n"), num(4)), Unknown(0, 0, *WIDE)), [(0, 0), (999999997, WIDE[1])])

    def test_a_range_of_one_number(self):
        for u in (-4, 0, 7):
            self.assertEqual(self.answer(ADDS, ("times", var("n"), var("n")), Unknown(0, 0, u, u)), [] if u == -4 else [(u, u)])

    def test_the_limit(self):
        parity = ("rest", var("n"), num(2))
        for least in (-200, 1, 999999601):
            self.assertEqual(len(self.answer(shop("set n = x"), parity, Unknown(0, 0, least, least + 399))), 200)
        with self.assertRaises(TooLarge) as caught:
            where(ADDS, ADD, Unknown(0, 0, *WIDE), (), parity)
        self.assertEqual(caught.exception.limit, "cases")
        with self.assertRaises(TooLarge):
            where(ADDS, ADD, Unknown(0, 0, 1, 2000), (), parity)
        with self.assertRaises(TooLarge):
            where(shop("set n = x * x"), ADD, Unknown(0, 0, *WIDE), (), num(1))
        # A condition without a product or a quotient of the unknown, over hundreds of cases.
        many = shop("repeat 20; repeat 15; set m = m + 1; if x = m * 6; set n = 0 - n; end; end; end")
        self.assertEqual(self.answer(many, less(var("n"), num(0)), Unknown(0, 0, 1, 240)), [(6 * k, 6 * k) for k in range(1, 41)])

    def test_as_many_changes_as_there_may_be(self):
        # The state is 1 for the even numbers from 2 to 400: for 399 numbers the next one has another answer.
        program = shop("set n = 0; repeat 20; repeat 10; set m = m + 1; if x = m * 2; set n = 1; end; end; end")
        self.assertEqual(self.answer(program, var("n"), Unknown(0, 0, 2, WIDE[1])), [(u, u) for u in range(2, 401, 2)])

    def test_invalid_unknowns(self):
        for row in ((-1, 0, 0, 9), (1, 0, 0, 9), (2, 0, 0, 9), (0, 1, 0, 9), (0, -1, 0, 9), (0, 0, 9, 0), (0, 0, 0, 1000000001)):
            with self.assertRaises(InvalidUnknown):
                where(ADDS, ADD, Unknown(*row), (), num(1))

    def test_random_programs(self):
        parted = 0
        for seed in range(250):
            maker = Parter(seed + 1000, seed % 2 == 0)
            program = maker.program()
            events = maker.events(program, 10)
            moments = [moment for moment, event in enumerate(events) if event[0] == "input"]
            unknown = Unknown(maker.dice.choice(moments), 0, *maker.range())
            path = maker.dice.choice(((), (), (0,)))
            try:
                parted += len(self.answer(program, maker.expression(["n", "m"], 3), unknown, path, events)) > 1
            except TooLarge:
                self.assertTrue(maker.is_hard and unknown.greatest - unknown.least >= 400)
        self.assertGreater(parted, 5)


if __name__ == "__main__":
    unittest.main()
