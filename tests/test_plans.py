import itertools
import random
import time
import unittest

from retroact.errors import TooLarge
from retroact.plans import accepts, cost, is_fair, is_plan, plan
from retroact.prices import Prices, change_cost, do_cost, undo_cost

from tests.helpers import attributes, frozen, name_unknown

PRICES = Prices({"pay": (5, 2, (1, 1)), "ring": (7, 3, None), "free": (0, 0, (0, 0))})


def calls(*rows):
    """Return calls with keys of their own, for tuples of an effect and its arguments."""
    return [(((), at), row[0], row[1:]) for at, row in enumerate(rows)]


THERE = calls(("pay", 10), ("ring", 1), ("pay", 3))
HERE = calls(("pay", 12), ("ring", 1))
DEEDS = [("change", 0, 0), ("undo", 1), ("undo", 2), ("do", 1)]


def every_plan(there, here, prices):
    """Return all plans for the lists, each in the order of plans that are made."""
    found = []
    for partners in itertools.product([None] + list(range(len(here))), repeat=len(there)):
        taken = [j for j in partners if j is not None]
        pairs = [(i, j) for i, j in enumerate(partners) if j is not None]
        if len(set(taken)) == len(taken) and all([change_cost(prices, there[i], here[j]) is not None for i, j in pairs]):
            deeds = [("undo", i) if j is None else ("change", i, j) for i, j in enumerate(partners)]
            found.append(deeds + [("do", j) for j in range(len(here)) if j not in taken])
    return found


def sum_of(there, here, prices, deeds):
    """Return the sum of the costs of deeds, each reckoned from the price list itself."""
    total = 0
    for deed in deeds:
        if deed[0] == "undo":
            total += prices.effects[there[deed[1]][1]][0]
        elif deed[0] == "do":
            total += prices.effects[here[deed[1]][1]][1]
        else:
            base, each = prices.effects[there[deed[1]][1]][2]
            total += base
            for number, other in zip(there[deed[1]][2], here[deed[2]][2]):
                total += each * (max(number, other) - min(number, other))
    return total


def random_prices(dice, greatest):
    effects = {}
    for name in ("a", "b", "c"):
        change = None if dice.random() < 0.25 else (dice.randint(0, greatest), dice.choice((0, 1, dice.randint(0, greatest))))
        effects[name] = (dice.randint(0, greatest), dice.randint(0, greatest), change)
    return Prices(effects)


def random_calls(dice, many, effects="abc"):
    return calls(*[(dice.choice(effects), dice.randint(0, 6), dice.randint(-3, 3)) for _ in range(many)])


class IsPlanTests(unittest.TestCase):
    def check(self, deeds, expected, there=THERE, here=HERE, prices=PRICES):
        kept = attributes(frozen([there, here, prices, deeds]))
        self.assertIs(is_plan(there, here, prices, deeds), expected, deeds)
        self.assertEqual(attributes([there, here, prices, deeds]), kept)

    def test_plans_in_any_order(self):
        for deeds in itertools.permutations(DEEDS):
            self.check(list(deeds), True)
        self.check([("undo", 0), ("undo", 1), ("undo", 2), ("do", 0), ("do", 1)], True)
        self.check([("undo", 0), ("undo", 1), ("change", 2, 0), ("do", 1)], True)
        self.check([], True, [], [])

    def test_indexes_that_are_missing(self):
        for at in range(4):
            self.check(DEEDS[:at] + DEEDS[at + 1:], False)
        self.check([], False)
        self.check([], False, THERE, [])
        self.check([], False, [], HERE)

    def test_indexes_that_stand_there_twice(self):
        for deed in DEEDS + [("undo", 0), ("do", 0), ("change", 2, 0), ("change", 0, 1)]:
            self.check(DEEDS + [deed], False)
        # Each index of there is in a deed, and as many deeds as there are indexes.
        self.check([("change", 0, 0), ("change", 2, 0), ("undo", 1), ("do", 1)], False)
        self.check([("change", 0, 0), ("undo", 1), ("undo", 1), ("do", 1)], False)
        self.check([("undo", 0), ("undo", 1), ("undo", 2), ("do", 0), ("do", 0)], False)

    def test_indexes_that_are_out_of_range(self):
        for wrong in (3, 4, 100, -1, -2, -3):
            self.check(DEEDS + [("undo", wrong)], False)
            self.check(DEEDS + [("do", wrong)], False)
            self.check([("change", 0, 0), ("undo", 1), ("undo", wrong), ("do", 1)], False)
            self.check([("change", 0, 0), ("undo", 1), ("undo", 2), ("do", wrong)], False)
            self.check([("change", wrong, 0), ("undo", 1), ("undo", 2), ("do", 1)], False)
            self.check([("change", 0, wrong), ("undo", 1), ("undo", 2), ("do", 1)], False)
        self.check([("change", 0, 0), ("undo", 1), ("undo", 2), ("do", 2)], False)
        self.check([("undo", 0)], False, [], [])

    def test_indexes_of_the_other_side(self):
        self.check([("do", 0), ("undo", 1), ("undo", 2), ("undo", 0), ("do", 1)], True)
        self.check([("undo", 0), ("undo", 1), ("do", 2), ("do", 0), ("do", 1)], False)
        self.check([("change", 0, 1)], False, calls(("pay", 1)), calls(("pay", 1)))

    def test_changes_that_cannot_be_made(self):
        self.check([("change", 1, 1), ("change", 0, 0), ("undo", 2)], False)
        self.check([("change", 1, 0), ("undo", 0), ("undo", 2), ("do", 1)], False)
        self.check([("change", 0, 1), ("undo", 1), ("undo", 2), ("do", 0)], False)
        both = Prices({"pay": (5, 2, (1, 1)), "ring": (7, 3, (0, 0))})
        self.check([("change", 1, 1), ("change", 0, 0), ("undo", 2)], True, prices=both)
        self.check([("change", 1, 0), ("undo", 0), ("undo", 2), ("do", 1)], False, prices=both)


class CostTests(unittest.TestCase):
    def test_sums(self):
        self.assertEqual(cost(THERE, HERE, PRICES, DEEDS), 3 + 7 + 5 + 3)
        self.assertEqual(cost(THERE, HERE, PRICES, DEEDS[::-1]), 18)
        self.assertEqual(cost(THERE, HERE, PRICES, [("undo", 0), ("undo", 1), ("change", 2, 0), ("do", 1)]), 5 + 7 + 10 + 3)
        self.assertEqual(cost(THERE, HERE, PRICES, [("undo", n) for n in range(3)] + [("do", 0), ("do", 1)]), 22)
        self.assertEqual(cost([], [], PRICES, []), 0)

    def test_costs_of_random_plans(self):
        dice = random.Random(7)
        for _ in range(40):
            prices = random_prices(dice, 1000000)
            there, here = random_calls(dice, 3), random_calls(dice, 3)
            kept = attributes(frozen([there, here, prices]))
            for deeds in every_plan(there, here, prices):
                self.assertEqual(cost(there, here, prices, deeds), sum_of(there, here, prices, deeds))
            self.assertEqual(attributes([there, here, prices]), kept)


class PlanTests(unittest.TestCase):
    def check(self, there, here, prices):
        """Check the form of what is planned, and that the paper is accepted; return the cost."""
        kept = attributes(frozen([there, here, prices]))
        made = plan(there, here, prices)
        self.assertEqual(attributes([there, here, prices]), kept)
        self.assertIsInstance(made, tuple)
        deeds, paper = made
        self.assertIsInstance(deeds, list)
        self.assertIsInstance(paper, tuple)
        lefts, rights = paper
        self.assertEqual(([type(n) for n in lefts], [type(n) for n in rights]), ([int] * len(there), [int] * len(here)))
        self.assertTrue(is_plan(there, here, prices, deeds))
        indexes = [(0, deed[1]) if deed[0] != "do" else (1, deed[1]) for deed in deeds]
        self.assertEqual(indexes, sorted(indexes))
        self.assertTrue(accepts(there, here, prices, deeds, paper))
        return sum_of(there, here, prices, deeds)

    def test_all_plans_of_small_lists(self):
        dice = random.Random(1)
        for turn in range(600):
            prices = random_prices(dice, dice.choice((1, 4, 12, 1000000)))
            effects = dice.choice(("abc", "a", "ab"))
            there, here = random_calls(dice, turn % 5, effects), random_calls(dice, turn // 5 % 5, effects)
            costs = [sum_of(there, here, prices, deeds) for deeds in every_plan(there, here, prices)]
            self.assertEqual(self.check(there, here, prices), min(costs))

    def test_a_change_that_takes_a_partner_from_another_one(self):
        # Each alone would take the first call here; together the second one is better left to the one that is near it.
        prices = Prices({"pay": (100, 100, (0, 1))})
        there, here = calls(("pay", 10), ("pay", 12), ("pay", 15)), calls(("pay", 12), ("pay", 10), ("pay", 40))
        self.assertEqual(self.check(there, here, prices), 25)
        self.assertEqual(plan(there, here, prices)[0], [("change", 0, 1), ("change", 1, 0), ("change", 2, 2)])

    def test_the_order_of_deeds(self):
        prices = Prices({"pay": (9, 9, (0, 1)), "ring": (1, 1, None)})
        there = calls(("ring",), ("pay", 5), ("ring",), ("pay", 1))
        here = calls(("ring",), ("pay", 1), ("ring",), ("pay", 5))
        self.assertEqual(plan(there, here, prices)[0],
                         [("undo", 0), ("change", 1, 3), ("undo", 2), ("change", 3, 1), ("do", 0), ("do", 2)])

    def test_one_side_alone(self):
        for many in range(13):
            self.assertEqual(self.check(calls(*[("pay", 1)] * many), [], PRICES), 5 * many)
            self.assertEqual(self.check([], calls(*[("pay", 1)] * many), PRICES), 2 * many)
        self.assertEqual(plan([], [], PRICES), ([], ([], [])))

    def test_no_price_at_all(self):
        self.assertEqual(self.check(calls(("free", 1), ("free", 2)), calls(("free", 3)), PRICES), 0)

    def test_twelve_calls_on_each_side(self):
        dice = random.Random(3)
        begun = time.perf_counter()
        for greatest in (1, 3, 20, 1000, 1000000):
            for effects in ("a", "ab", "abc"):
                for many in ((12, 12), (12, 11), (3, 12)):
                    prices = random_prices(dice, greatest)
                    self.check(random_calls(dice, many[0], effects), random_calls(dice, many[1], effects), prices)
        near = Prices({"pay": (1000000, 1000000, (0, 1))})
        there = calls(*[("pay", 3 * n) for n in range(12)])
        here = calls(*[("pay", 3 * (n * 5 % 12) + 1) for n in range(12)])
        self.assertEqual(self.check(there, here, near), 12)
        self.assertLess(time.perf_counter() - begun, 20)

    def test_too_many_calls(self):
        many = calls(*[("pay", 1)] * 13)
        for there, here in ((many, []), ([], many), (many, many), (many[:12], many), (many, many[:12]), (many * 2, [])):
            with self.assertRaises(TooLarge) as caught:
                plan(there, here, PRICES)
            self.assertEqual(caught.exception.limit, "calls")

    def test_the_example(self):
        there, here = calls(("pay", 10), ("pay", 3)), calls(("pay", 12))
        deeds, paper = plan(there, here, PRICES)
        self.assertEqual((deeds, cost(there, here, PRICES, deeds)), ([("change", 0, 0), ("undo", 1)], 8))
        self.assertTrue(accepts(there, here, PRICES, deeds, paper))


class FairTests(unittest.TestCase):
    def check(self, lefts, rights, expected, there=THERE, here=HERE, prices=PRICES):
        paper = (lefts, rights)
        kept = attributes(frozen([there, here, prices, paper]))
        self.assertIs(is_fair(there, here, prices, paper), expected, paper)
        self.assertEqual(attributes([there, here, prices, paper]), kept)

    def test_costs_of_undoing(self):
        self.check([5, 7, 5], [-9, 0], True)
        for at in range(3):
            lefts = [5, 7, 5]
            lefts[at] += 1
            self.check(lefts, [-9, 0], False)
            lefts[at] -= 100
            self.check(lefts, [-9, 0], True)

    def test_costs_of_doing(self):
        self.check([-9, -9, -9], [2, 3], True)
        self.check([-9, -9, -9], [3, 3], False)
        self.check([-9, -9, -9], [2, 4], False)
        self.check([-9, -9, -9], [-9, -9], True)

    def test_costs_of_changing(self):
        # Changing the first call costs 3, the third one 10.
        for left, right in ((3, 0), (2, 1), (1, 2), (5, -2)):
            self.check([left, 0, 0], [right, 0], True)
            self.check([left, 0, 0], [right + 1, 0], False)
        far = Prices({"pay": (20, 20, (1, 1)), "ring": (7, 3, None)})
        self.check([0, 0, 10], [0, 0], True, prices=far)
        self.check([0, 0, 11], [0, 0], False, prices=far)
        self.check([0, 0, 8], [3, 0], False, prices=far)
        self.check([1, 0, 8], [2, 0], True, prices=far)

    def test_pairs_that_cannot_be_changed(self):
        # The calls of `ring` cannot be changed, and those of `pay` not into one of `ring`.
        self.check([0, 7, 0], [0, 3], True)
        self.check([3, 7, 5], [0, 3], True)

    def test_other_lengths(self):
        self.check([0, 0, 0], [0, 0], True)
        for lefts, rights in (([0, 0], [0, 0]), ([0, 0, 0, 0], [0, 0]), ([0, 0, 0], [0]), ([0, 0, 0], [0, 0, 0]), ([], []),
                              ([], [0, 0]), ([0, 0, 0], []), ([0, 0], [0, 0, 0])):
            self.check(lefts, rights, False)
        self.check([], [], True, [], [])
        self.check([0], [], False, [], [])
        self.check([], [0], False, [], [])


class AcceptsTests(unittest.TestCase):
    def check(self, deeds, paper, expected, there=THERE, here=HERE):
        kept = attributes(frozen([there, here, PRICES, deeds, paper]))
        self.assertIs(accepts(there, here, PRICES, deeds, paper), expected)
        self.assertEqual(attributes([there, here, PRICES, deeds, paper]), kept)

    def test_accepted_papers(self):
        self.check(DEEDS, ([3, 7, 5], [0, 3]), True)
        self.check(DEEDS[::-1], ([1, 7, 5], [2, 3]), True)
        self.check([], ([], []), True, [], [])

    def test_deeds_that_are_no_plan(self):
        there = calls(("pay", 1), ("pay", 1))
        self.check([("undo", 0), ("undo", 1)], ([5, 5], []), True, there, [])
        self.check([("undo", 0), ("undo", 0)], ([5, 5], []), False, there, [])
        self.check([("undo", 0)], ([5, 0], []), False, there, [])
        self.check([("undo", 0), ("undo", 2)], ([5, 5], []), False, there, [])

    def test_papers_that_are_not_fair(self):
        there = calls(("pay", 1), ("pay", 1))
        self.check([("undo", 0), ("undo", 1)], ([6, 4], []), False, there, [])
        self.check([("undo", 0), ("undo", 1)], ([10], []), False, there, [])
        self.check([("undo", 0), ("undo", 1)], ([5, 5], [0]), False, there, [])
        self.check(DEEDS, ([4, 7, 5], [0, 2]), False)
        # The dearer plan has a paper of its cost, which is not fair.
        self.check([("undo", n) for n in range(3)] + [("do", 0), ("do", 1)], ([5, 7, 5], [2, 3]), False)

    def test_sums_that_are_not_the_cost(self):
        for lefts, rights in (([2, 7, 5], [0, 3]), ([3, 7, 5], [-1, 3]), ([3, 7, 5], [0, 2]), ([0, 0, 0], [0, 0])):
            self.check(DEEDS, (lefts, rights), False)
        self.check([("undo", n) for n in range(3)] + [("do", 0), ("do", 1)], ([3, 7, 5], [0, 3]), False)

    def test_only_least_plans_have_accepted_papers(self):
        dice = random.Random(5)
        accepted = 0
        for _ in range(120):
            prices = random_prices(dice, 3)
            there, here = random_calls(dice, 2, "a"), random_calls(dice, 2, "a")
            plans = every_plan(there, here, prices)
            least = min([sum_of(there, here, prices, deeds) for deeds in plans])
            for numbers in itertools.product(range(-1, 4), repeat=4):
                paper = (list(numbers[:2]), list(numbers[2:]))
                for deeds in plans:
                    if accepts(there, here, prices, deeds, paper):
                        accepted += 1
                        self.assertEqual(sum_of(there, here, prices, deeds), least)
        self.assertGreater(accepted, 100)


class UnknownEffectTests(unittest.TestCase):
    def check(self, there, here, name):
        there, here = calls(*there), calls(*here)
        deeds = [("undo", i) for i in range(len(there))] + [("do", j) for j in range(len(here))]
        paper = ([0] * len(there), [0] * len(here))
        self.assertEqual(name_unknown(plan, there, here, PRICES), name)
        for some in (deeds, [], [("undo", 50)]):
            self.assertEqual(name_unknown(is_plan, there, here, PRICES, some), name)
            self.assertEqual(name_unknown(accepts, there, here, PRICES, some, paper), name)
        self.assertEqual(name_unknown(cost, there, here, PRICES, deeds), name)
        self.assertEqual(name_unknown(cost, there, here, PRICES, deeds[::-1]), name)
        for some in (paper, ([], []), ([9] * len(there), [9] * len(here))):
            self.assertEqual(name_unknown(is_fair, there, here, PRICES, some), name)
        self.assertEqual(name_unknown(accepts, there, here, PRICES, deeds, ([], [])), name)

    def test_the_first_call_of_there_and_then_of_here(self):
        self.check([("mail",)], [], "mail")
        self.check([], [("mail",)], "mail")
        self.check([("pay", 1), ("z",), ("a",)], [("b",), ("c",)], "z")
        self.check([("pay", 1), ("ring",)], [("free", 1), ("z",), ("a",)], "z")
        self.check([("pay", 1)], [("pay", 1)], None)

    def test_costs_of_the_functions_below(self):
        # The plans reckon with the same functions that the price list has.
        self.assertEqual((undo_cost(PRICES, THERE[1]), do_cost(PRICES, HERE[0])), (7, 2))


if __name__ == "__main__":
    unittest.main()
