import unittest

from retroact.errors import Fault, TooLarge
from retroact.handlers import run_handler
from retroact.reckoning import Reckoning
from retroact.tracks import domain_of
from retroact.values import evaluate
from retroact.ways import begin_all, run_all

from tests.helpers import num, var
from tests.test_tracks import TrackTestCase, numbers, told
from tests.unknowns import WIDE, Parter

X = var("x")


class ReckonTests(TrackTestCase):
    def assert_reckoned(self, expression, names, domain):
        """Try what is reckoned for all numbers of a domain against what is evaluated for each of them."""
        before = {name: list(names[name]) for name in names}
        faults = {}
        track = Reckoning().reckon(expression, names, domain, faults)
        self.assertEqual(names, before)
        self.assert_track(track)
        found = told(track)
        for u in numbers(domain):
            worths = {name: told(names[name])[u] for name in names}
            reasons = [reason for reason in faults if u in numbers(faults[reason])]
            try:
                self.assertEqual((found.pop(u, None), reasons), (evaluate(expression, worths), []), (u, expression))
            except Fault as fault:
                self.assertEqual(reasons, [fault.reason], (u, expression))
        self.assertEqual(found, {})

    def test_random_expressions(self):
        for seed in range(400):
            maker = Parter(seed, seed % 2 == 0)
            domain = self.domain(-15, 15) or [(0, 0)]
            names = {"x": [(-15, 15, 1, 0)], "n": self.track([(-20, 20)]), "m": self.track(domain)}
            self.assert_reckoned(maker.expression(["x", "n", "m"], 4), names, domain)

    def test_each_operation_at_the_limits_of_values(self):
        for word in ("plus", "minus", "times", "over", "rest", "less", "atmost", "same", "and", "or"):
            for start in (999999996, -999999996, 0, 1, 3):
                for slope in (1, -1, 3, 250000000):
                    if abs(start) + 7 * slope < 2100000000:
                        names = {"x": [(-3, 3, slope, 0)], "n": [(-3, 3, 0, start)]}
                        self.assert_reckoned((word, var("n"), X), names, [(-3, 3)])
                        self.assert_reckoned((word, X, var("n")), names, [(-3, 3)])
                        self.assert_reckoned((word, X, ("plus", X, num(1))), names, [(-3, -2), (0, 3)])

    def test_quotients_by_steps(self):
        for slope in range(-7, 8):
            for divisor in (-6, -5, -3, -1, 1, 2, 3, 4, 7):
                for word in ("over", "rest"):
                    self.assert_reckoned((word, ("plus", ("times", X, num(slope)), num(5)), num(divisor)), {"x": [(-20, 20, 1, 0)]}, [(-20, -7), (-5, 20)])

    def test_quotients_of_a_whole_range(self):
        for word, expected in (("over", (2, 1)), ("rest", (0, 2))):
            expression = (word, ("plus", ("times", num(6), X), num(5)), num(3))
            track = Reckoning().reckon(expression, {"x": [(-100000000, 100000000, 1, 0)]}, [(-100000000, 100000000)], {})
            self.assertEqual(track, [(-100000000, 100000000, *expected)])

    def test_numbers_that_are_no_values(self):
        faults = {}
        self.assertEqual(Reckoning().reckon(("plus", num(1000000001), X), {"x": [(0, 9, 1, 0)]}, [(0, 3), (5, 9)], faults), [])
        self.assertEqual(faults, {"range": [(0, 3), (5, 9)]})

    def test_second_parts_are_reckoned_only_where_they_decide(self):
        for word, expected in (("and", {"zero": [(0, 4)]}), ("or", {"zero": [(5, 9)]})):
            faults = {}
            track = Reckoning().reckon((word, ("less", X, num(5)), ("over", X, num(0))), {"x": [(0, 9, 1, 0)]}, [(0, 9)], faults)
            self.assertEqual((faults, domain_of(track)), (expected, [(5, 9) if word == "and" else (0, 4)]))

    def test_too_many_parts(self):
        for expression in (("times", X, X), ("over", X, num(2)), ("rest", X, num(2)), ("over", num(7), X)):
            with self.assertRaises(TooLarge) as caught:
                Reckoning().reckon(expression, {"x": [(*WIDE, 1, 0)]}, [WIDE], {})
            self.assertEqual(caught.exception.limit, "cases")
            self.assertEqual(len(told(Reckoning().reckon(expression, {"x": [(1, 400, 1, 0)]}, [(1, 400)], {}))), 400)


class RunTests(TrackTestCase):
    def test_random_handlers(self):
        """The outcomes of all numbers at once are those of each number by itself."""
        for seed in range(300):
            maker = Parter(seed + 500, seed % 2 == 0)
            body = [("set", "t", num(0))] + maker.body(["n", "m", "t", "x"], 1)
            domain = [(-9, 4), (6, 12)]
            states = {"n": self.track([(-9, 12)]), "m": self.track([(-9, 12)])}
            arguments = (self.track([(-9, 12)]),)
            handler = ("go", ["x"], body)
            rows = run_all(handler, states, 2, arguments, domain, Reckoning())
            self.assertEqual(sorted([u for part, _ in rows for u in numbers(part)]), numbers(domain))
            for part, outcome in rows:
                for u in numbers(part):
                    plain = run_handler(handler, {name: told(states[name])[u] for name in states}, 2, (told(arguments[0])[u],))
                    self.assertEqual((outcome.kind, outcome.reason), (plain.kind, plain.reason))
                    self.assertEqual({name: told(outcome.states[name])[u] for name in states}, plain.states)
                    deeds = [tuple([tuple([told(track)[u] for track in row]) if isinstance(row, tuple) and row and isinstance(row[0], list) else row
                                    for row in deed]) for deed in outcome.deeds]
                    self.assertEqual(deeds, plain.deeds)

    def test_outcomes_are_as_few_as_they_are(self):
        body = [("repeat", num(20), [("set", "k", ("plus", var("k"), num(3))), ("if", ("less", X, var("k")), [("set", "n", X)], [("set", "n", num(0))])])]
        rows = run_all(("go", ["x"], body), {"n": [(0, 99, 0, 4)]}, 0, ([(0, 99, 1, 0)],), [(0, 99)], Reckoning())
        self.assertEqual([(part, outcome.kind) for part, outcome in rows], [([(0, 99)], "done")])
        body = [("if", ("less", X, num(5)), [("send", ("self",), "go", [X])], [("send", ("self",), "go", [num(7)])])]
        (part, outcome), = run_all(("go", ["x"], body), {}, 0, ([(0, 99, 1, 0)],), [(0, 99)], Reckoning())
        self.assertEqual((part, outcome.deeds), ([(0, 99)], [("send", ("self",), "go", ([(0, 4, 1, 0), (5, 99, 0, 7)],))]))

    def test_begin_all(self):
        class Kind:
            parameters = ["p"]
            states = [("a", ("over", num(12), var("p"))), ("b", ("plus", var("a"), num(999999995)))]

        begun, domain, failed = begin_all(Kind, ([(0, 12, 1, 0)],), [(0, 4), (6, 12)], Reckoning())
        # 12 / 0 has no value, and 12 / 1 and 12 / 2 are too large for the second state.
        self.assertEqual((domain, failed), ([(3, 4), (6, 12)], [(0, 2)]))
        self.assertEqual({u: told(begun["b"])[u] for u in numbers(domain)}, {u: 12 // u + 999999995 for u in numbers(domain)})


if __name__ == "__main__":
    unittest.main()
