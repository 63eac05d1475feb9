import unittest

from retroact.values import evaluate, evaluate_all, is_value

from tests.helpers import fault_of, frozen, num, var

TOP = 1000000000


def both(word, first, second):
    return evaluate((word, num(first), num(second)), {})


class IsValueTests(unittest.TestCase):
    def test_integers(self):
        for number in (0, 1, -1, TOP, -TOP):
            self.assertIs(is_value(number), True, number)
        for number in (TOP + 1, -TOP - 1, 10 ** 30):
            self.assertIs(is_value(number), False, number)

    def test_other_kinds(self):
        for thing in (True, False, None, "1", b"1", 1.0, [1], (1,), {1: 1}, object(), int):
            self.assertIs(is_value(thing), False, thing)


class EvaluateTests(unittest.TestCase):
    def test_leaves(self):
        self.assertEqual(evaluate(num(-7), {}), -7)
        self.assertEqual(evaluate(var("x"), {"x": 3, "y": 4}), 3)

    def test_operations_of_one_part(self):
        self.assertEqual(evaluate(("negative", num(5)), {}), -5)
        self.assertEqual(evaluate(("negative", num(-5)), {}), 5)
        self.assertEqual(evaluate(("negative", num(-TOP)), {}), TOP)
        self.assertEqual(evaluate(("not", num(0)), {}), 1)
        self.assertEqual(evaluate(("not", num(-3)), {}), 0)

    def test_sums_and_products(self):
        self.assertEqual(both("plus", 2, 3), 5)
        self.assertEqual(both("minus", 2, 3), -1)
        self.assertEqual(both("times", -4, 3), -12)

    def test_quotients_are_rounded_down(self):
        cases = ((7, 2, 3, 1), (-7, 2, -4, 1), (7, -2, -4, -1), (-7, -2, 3, -1), (6, 3, 2, 0), (-6, 3, -2, 0),
                 (0, 5, 0, 0), (1, -1000, -1, -999), (-TOP, -1, TOP, 0), (TOP, TOP, 1, 0))
        for first, second, quotient, rest in cases:
            self.assertEqual((both("over", first, second), both("rest", first, second)), (quotient, rest))

    def test_comparisons(self):
        for first, second in ((1, 2), (2, 2), (3, 2), (-2, 2), (0, -1)):
            self.assertEqual(both("less", first, second), 1 if first < second else 0)
            self.assertEqual(both("atmost", first, second), 1 if first <= second else 0)
            self.assertEqual(both("same", first, second), 1 if first == second else 0)

    def test_and_and_or(self):
        for first in (0, 1, -5):
            for second in (0, 1, 7):
                self.assertEqual(both("and", first, second), 1 if first != 0 and second != 0 else 0)
                self.assertEqual(both("or", first, second), 1 if first != 0 or second != 0 else 0)

    def test_results_are_integers(self):
        for word in ("less", "atmost", "same", "and", "or"):
            for first, second in ((0, 0), (0, 3), (3, 0), (3, 3)):
                self.assertIs(type(both(word, first, second)), int)
        self.assertIs(type(evaluate(("not", num(0)), {})), int)

    def test_second_parts_that_are_not_evaluated(self):
        bad = ("over", num(1), num(0))
        self.assertEqual(evaluate(("and", num(0), bad), {}), 0)
        self.assertEqual(evaluate(("or", num(2), bad), {}), 1)
        self.assertEqual(fault_of(evaluate, ("and", num(2), bad), {}), "zero")
        self.assertEqual(fault_of(evaluate, ("or", num(0), bad), {}), "zero")
        self.assertEqual(fault_of(evaluate, ("and", bad, num(0)), {}), "zero")
        self.assertEqual(fault_of(evaluate, ("or", bad, num(1)), {}), "zero")

    def test_the_parts_are_told_from_the_names(self):
        expression = ("minus", ("times", var("x"), var("y")), ("negative", var("x")))
        self.assertEqual(evaluate(expression, {"x": 3, "y": 4}), 15)

    def test_nothing_is_modified(self):
        names = {"x": 3}
        expressions = [("plus", var("x"), num(1)), var("x")]
        kept = frozen((names, expressions))
        evaluate_all(expressions, names)
        self.assertEqual((names, expressions), kept)

    def test_nested_expressions(self):
        left, right = num(0), num(0)
        for _ in range(199):
            left = ("plus", left, num(1))
            right = ("plus", num(1), right)
        self.assertEqual((evaluate(left, {}), evaluate(right, {})), (199, 199))
        inner = num(1)
        for _ in range(200):
            inner = ("not", ("negative", inner)) if inner[0] != "not" else ("negative", inner)
        self.assertIn(evaluate(inner, {}), (0, 1, -1))


class FaultTests(unittest.TestCase):
    def test_ends_of_the_range(self):
        self.assertEqual(both("plus", TOP - 1, 1), TOP)
        self.assertEqual(fault_of(both, "plus", TOP, 1), "range")
        self.assertEqual(both("minus", 1 - TOP, 1), -TOP)
        self.assertEqual(fault_of(both, "minus", -TOP, 1), "range")
        self.assertEqual(fault_of(both, "plus", -TOP, -1), "range")
        self.assertEqual(fault_of(both, "minus", TOP, -1), "range")
        self.assertEqual(both("times", 100000, 10000), TOP)
        self.assertEqual(both("times", -100000, 10000), -TOP)
        self.assertEqual(fault_of(both, "times", 100001, 10000), "range")
        self.assertEqual(fault_of(both, "times", 100001, -10000), "range")

    def test_numbers_of_the_expression(self):
        self.assertEqual(evaluate(num(TOP), {}), TOP)
        self.assertEqual(evaluate(num(-TOP), {}), -TOP)
        self.assertEqual(fault_of(evaluate, num(TOP + 1), {}), "range")
        self.assertEqual(fault_of(evaluate, num(-TOP - 1), {}), "range")
        self.assertEqual(fault_of(evaluate, ("minus", num(TOP + 1), num(1)), {}), "range")

    def test_intermediate_results(self):
        expression = ("minus", ("plus", num(TOP), num(1)), num(1))
        self.assertEqual(fault_of(evaluate, expression, {}), "range")

    def test_zero(self):
        self.assertEqual(fault_of(both, "over", 5, 0), "zero")
        self.assertEqual(fault_of(both, "rest", 5, 0), "zero")
        self.assertEqual(fault_of(both, "over", 0, 0), "zero")

    def test_the_first_of_two_faults(self):
        zero, large = ("rest", num(1), num(0)), ("plus", num(TOP), num(1))
        self.assertEqual(fault_of(evaluate, ("plus", zero, large), {}), "zero")
        self.assertEqual(fault_of(evaluate, ("plus", large, zero), {}), "range")
        self.assertEqual(fault_of(evaluate, ("over", large, num(0)), {}), "range")
        self.assertEqual(fault_of(evaluate, ("over", num(0), zero), {}), "zero")
        self.assertEqual(fault_of(evaluate, ("over", num(1), num(TOP + 1)), {}), "range")
        self.assertEqual(fault_of(evaluate, ("times", num(TOP), ("over", num(TOP), num(0))), {}), "zero")


class EvaluateAllTests(unittest.TestCase):
    def test_values_in_order(self):
        self.assertEqual(evaluate_all([num(3), var("x"), ("not", var("x"))], {"x": 5}), (3, 5, 0))
        self.assertEqual(evaluate_all([], {}), ())

    def test_the_first_fault(self):
        zero, large = ("over", num(1), num(0)), num(TOP + 1)
        self.assertEqual(fault_of(evaluate_all, [num(1), zero, large], {}), "zero")
        self.assertEqual(fault_of(evaluate_all, [num(1), large, zero], {}), "range")


if __name__ == "__main__":
    unittest.main()
