import unittest

from retroact.errors import InvalidPrices
from retroact.prices import Prices, change_cost, do_cost, undo_cost

from tests.helpers import attributes, frozen, name_unknown

TOP = 1000000
KEY = ((), 0)
PRICES = Prices({"pay": (5, 2, (1, 3)), "ring": (7, 0, None), "wide": (0, TOP, (0, 1)), "flat": (1, 1, (4, 0))})


def call(effect, *arguments):
    return (KEY, effect, arguments)


def name_refused(effects):
    """Return the name of the InvalidPrices that is raised, or None."""
    try:
        Prices(effects)
    except InvalidPrices as error:
        return error.name
    return None


class PricesTests(unittest.TestCase):
    def test_effects(self):
        effects = {"pay": (5, 2, (1, 3)), "ring": (7, 0, None)}
        kept = frozen(effects)
        self.assertEqual(Prices(effects).effects, kept)
        self.assertEqual(effects, kept)
        self.assertEqual(Prices({}).effects, {})

    def test_least_and_greatest_numbers(self):
        for numbers in ((0, 0, None), (TOP, TOP, None), (0, 0, (0, 0)), (TOP, TOP, (TOP, TOP))):
            self.assertIsNone(name_refused({"pay": numbers}))

    def test_numbers_that_are_not_as_described(self):
        for wrong in (-1, TOP + 1, -TOP, 10 ** 20):
            for numbers in ((wrong, 1, None), (1, wrong, None), (wrong, 1, (1, 1)), (1, wrong, (1, 1)), (1, 1, (wrong, 1)),
                            (1, 1, (1, wrong))):
                self.assertEqual(name_refused({"pay": numbers}), "pay", numbers)

    def test_another_number_of_numbers(self):
        for numbers in ((), (1,), (1, 1), (1, 1, None, 1), (1, 1, (1, 1), None), (1, 1, 1, 1), (1, 1, ()), (1, 1, (1,)),
                        (1, 1, (1, 1, 1)), (1, 1, 1), (None, 1, None), (1, None, None), (1, 1, (None, 1)), (1, 1, (1, None))):
            self.assertEqual(name_refused({"pay": numbers}), "pay", numbers)

    def test_which_name_is_told(self):
        wrong = (1, -1, None)
        self.assertEqual(name_refused({"ring": wrong, "pay": wrong, "wide": wrong}), "pay")
        self.assertEqual(name_refused({"wide": wrong, "b": (1, 1, None), "ring": wrong, "a": (1, 1, None)}), "ring")
        self.assertEqual(name_refused({"ab": wrong, "b": wrong, "aa": (1, 1, (0, 0)), "abc": wrong}), "ab")


class CostTests(unittest.TestCase):
    def test_undoing_and_doing(self):
        for effect, undo, do in (("pay", 5, 2), ("ring", 7, 0), ("wide", 0, TOP)):
            for arguments in ((), (1,), (-9, 1000000000)):
                self.assertEqual(undo_cost(PRICES, call(effect, *arguments)), undo)
                self.assertEqual(do_cost(PRICES, call(effect, *arguments)), do)

    def test_changing(self):
        self.assertEqual(change_cost(PRICES, call("pay", 10), call("pay", 10)), 1)
        self.assertEqual(change_cost(PRICES, call("pay", 10), call("pay", 12)), 7)
        self.assertEqual(change_cost(PRICES, call("pay", 12), call("pay", 10)), 7)
        self.assertEqual(change_cost(PRICES, call("pay", -2), call("pay", 2)), 13)
        self.assertEqual(change_cost(PRICES, call("pay"), call("pay")), 1)
        self.assertEqual(change_cost(PRICES, call("pay", 1, 2, 3, 4), call("pay", 2, 2, 1, 5)), 13)
        self.assertEqual(change_cost(PRICES, call("wide", 1000000000), call("wide", -1000000000)), 2000000000)
        self.assertEqual(change_cost(PRICES, call("wide", 3, -3), call("wide", 3, -3)), 0)
        self.assertEqual(change_cost(PRICES, call("flat", 3), call("flat", 300)), 4)

    def test_changes_that_cannot_be_made(self):
        self.assertIsNone(change_cost(PRICES, call("ring", 1), call("ring", 1)))
        self.assertIsNone(change_cost(PRICES, call("ring"), call("ring")))
        self.assertIsNone(change_cost(PRICES, call("pay", 1), call("wide", 1)))
        self.assertIsNone(change_cost(PRICES, call("pay", 1), call("ring", 1)))
        self.assertIsNone(change_cost(PRICES, call("ring", 1), call("pay", 1)))

    def test_keys_do_not_matter(self):
        self.assertEqual(change_cost(PRICES, (((3,), 9), "pay", (1,)), (((), 0), "pay", (2,))), 4)

    def test_unknown_effects(self):
        known = call("pay", 1)
        for effect in ("mail", "pa", "payy"):
            unknown = call(effect, 1)
            for function in (undo_cost, do_cost):
                self.assertEqual(name_unknown(function, PRICES, unknown), effect)
            for pair in ((unknown, known), (known, unknown), (unknown, unknown), (call("ring"), unknown)):
                self.assertEqual(name_unknown(change_cost, PRICES, *pair), effect)
        self.assertEqual(name_unknown(change_cost, PRICES, call("y"), call("x")), "y")
        self.assertEqual(name_unknown(change_cost, PRICES, call("x"), call("y")), "x")
        self.assertEqual(name_unknown(undo_cost, Prices({}), known), "pay")

    def test_nothing_is_modified(self):
        kept = attributes(frozen(PRICES))
        first, second = call("pay", 1), call("pay", 2)
        undo_cost(PRICES, first), do_cost(PRICES, first), change_cost(PRICES, first, second)
        self.assertEqual(attributes(PRICES), kept)
        self.assertEqual((first, second), (call("pay", 1), call("pay", 2)))


if __name__ == "__main__":
    unittest.main()
