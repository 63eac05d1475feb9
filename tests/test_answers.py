import itertools
import unittest

from retroact.answers import ask, model
from retroact.errors import InvalidRules, NotLayered, TooLarge
from retroact.rules import sorted_facts

from tests.helpers import frozen
from tests.logic import CONSTANTS, FACTS, LOST, RULES, WAY, X, Y, Z, fails, holds, rule, samples, slow_model

NUMBERS = [("n", (number,)) for number in (-3, -1, 0, 2)] + [("n", ("s",)), ("n", ("t",)), ("n", ((0,),)), ("n", ((0, 1),))]


def pairs_of(item, facts=NUMBERS):
    """Return the pairs of constants of numbers for which a comparison of x and y is true."""
    found = model([rule("p", [X, Y], holds("n", X), holds("n", Y), item)], facts)
    return [constants for name, constants in found if name == "p"]


class ModelTests(unittest.TestCase):
    def test_without_rules(self):
        self.assertEqual(model([], FACTS + FACTS), sorted_facts(FACTS))
        self.assertEqual(model([], []), [])

    def test_recursion(self):
        chain = [("edge", (at, at + 1)) for at in range(60)]
        found = model(WAY, chain)
        self.assertEqual(found, chain + [("way", (a, b)) for a in range(60) for b in range(a + 1, 61)])
        ring = [("edge", (at, (at + 1) % 7)) for at in range(7)]
        self.assertEqual(model(WAY, ring), sorted_facts(ring) + [("way", (a, b)) for a in range(7) for b in range(7)])

    def test_rules_that_lean_on_one_another(self):
        even = [rule("even", [0]), rule("even", [Y], holds("odd", X), holds("next", X, Y)),
                rule("odd", [Y], holds("even", X), holds("next", X, Y))]
        found = model(even, [("next", (n, n + 1)) for n in range(9)])
        self.assertEqual([fact[1][0] for fact in found if fact[0] == "even"], [0, 2, 4, 6, 8])
        self.assertEqual([fact[1][0] for fact in found if fact[0] == "odd"], [1, 3, 5, 7, 9])

    def test_denials_over_several_layers(self):
        rules = [rule("a", [X], holds("n", X), fails("b", X)), rule("b", [X], holds("n", X), fails("c", X)),
                 rule("c", [X], holds("n", X), fails("d", X)), rule("d", [2])]
        found = model(rules, [("n", (1,)), ("n", (2,)), ("c", (3,)), ("n", (3,)), ("b", (9,))])
        self.assertEqual([fact for fact in found if fact[0] != "n"],
                         [("a", (1,)), ("a", (3,)), ("b", (2,)), ("b", (9,)), ("c", (1,)), ("c", (3,)), ("d", (2,))])

    def test_denial_of_given_facts_and_of_the_own_layer_below(self):
        self.assertEqual(model([rule("p", [], fails("q"))], []), [("p", ())])
        self.assertEqual(model([rule("p", [], fails("q"))], [("q", ())]), [("q", ())])
        # A given fact of another number of constants is another fact.
        self.assertEqual(model([rule("p", [], fails("q"))], [("q", (1,))]), [("p", ()), ("q", (1,))])
        self.assertEqual(model([rule("p", [X], holds("q", X))], [("q", ()), ("q", (1, 2))]), [("q", ()), ("q", (1, 2))])

    def test_given_facts_of_heads(self):
        self.assertEqual(model(WAY, [("way", (1, 2)), ("edge", (2, 3))]),
                         [("edge", (2, 3)), ("way", (1, 2)), ("way", (1, 3)), ("way", (2, 3))])

    def test_rules_without_items(self):
        self.assertEqual(model([rule("p", [1, "s", (0,)]), rule("q", [])], []), [("p", (1, "s", (0,))), ("q", ())])

    def test_items_without_variables(self):
        rules = [rule("p", [], holds("q", 1)), rule("r", [], ("less", 1, 2)), rule("s", [], ("less", 2, 1)), rule("t", [], fails("q", 1))]
        self.assertEqual(model(rules, [("q", (1,))]), [("p", ()), ("q", (1,)), ("r", ())])
        self.assertEqual(model(rules, [("q", (2,))]), [("q", (2,)), ("r", ()), ("t", ())])

    def test_variables_that_stand_twice(self):
        facts = [("e", (1, 1)), ("e", (1, 2)), ("e", ((0,), (0,))), ("e", ("1", 1)), ("f", (1, 2, 1)), ("f", (1, 1, 2))]
        rules = [rule("p", [X], holds("e", X, X)), rule("q", [Y, X, Y], holds("f", X, Y, X)), rule("r", [X], holds("e", X, Y), holds("e", Y, X))]
        self.assertEqual([fact for fact in model(rules, facts) if fact[0] in "pqr"],
                         [("p", (1,)), ("p", ((0,),)), ("q", (2, 1, 2)), ("r", (1,)), ("r", ((0,),))])

    def test_comparisons_of_integers(self):
        whole = (-3, -1, 0, 2)
        self.assertEqual(pairs_of(("less", X, Y)), [(a, b) for a in whole for b in whole if a < b])
        self.assertEqual(pairs_of(("atmost", X, Y)), [(a, b) for a in whole for b in whole if a <= b])

    def test_comparisons_of_other_constants(self):
        constants = [constant for _, (constant,) in NUMBERS]
        self.assertEqual(pairs_of(("same", X, Y)), [(c, c) for c in constants])
        self.assertEqual(pairs_of(("differs", X, Y)), [(a, b) for a in constants for b in constants if a != b])
        others = NUMBERS[4:]
        for word in ("less", "atmost"):
            self.assertEqual(pairs_of((word, X, Y), others), [])
            self.assertEqual(pairs_of((word, X, 5), others), [])
            self.assertEqual(pairs_of((word, -5, Y), others), [])

    def test_comparisons_with_constants(self):
        self.assertEqual([x for x, _ in pairs_of(("less", X, 0), NUMBERS[:4])][::4], [-3, -1])
        self.assertEqual({x for x, _ in pairs_of(("same", (0, 1), X))}, {(0, 1)})

    def test_a_check_ahead_of_what_it_needs(self):
        # Of the facts for an x only a later one passes the check.
        rules = [rule("p", [X], ("less", Y, 3), fails("no", Y), holds("a", X, Y))]
        self.assertEqual(model(rules, [("a", (1, 5)), ("a", (1, 2)), ("a", (1, 1)), ("no", (2,)), ("a", (2, 2))])[-1:], [("p", (1,))])

    def test_the_order_does_not_matter(self):
        wanted = model(RULES, FACTS)
        for rules in itertools.permutations(RULES):
            for facts in itertools.permutations(FACTS):
                self.assertEqual(model(list(rules), list(facts)), wanted)
        for rules, facts, maker in samples(80):
            wanted = model(rules, facts)
            for _ in range(4):
                maker.dice.shuffle(rules)
                maker.dice.shuffle(facts)
                for _, items in rules:
                    maker.dice.shuffle(items)
                self.assertEqual(model(rules, facts + facts), wanted)

    def test_random_models(self):
        for rules, facts, _ in samples(300):
            self.assertEqual(model(rules, facts), sorted_facts(list(slow_model(rules, facts))))

    def test_nothing_that_is_passed_changes(self):
        rules, facts = frozen(RULES), frozen(FACTS)
        found = model(RULES, FACTS)
        ask(RULES, FACTS, ("way", (X, Y)))
        self.assertEqual((RULES, FACTS), (rules, facts))
        found.clear()
        self.assertEqual(len(model(RULES, FACTS)), 10)


class LimitTests(unittest.TestCase):
    def test_given_facts(self):
        self.assertEqual(len(model([], [("n", (at,)) for at in range(2000)])), 2000)
        for call in (model, lambda rules, facts: ask(rules, facts, ("n", (X,)))):
            with self.assertRaises(TooLarge) as caught:
                call([], [("n", (at,)) for at in range(2001)])
            self.assertEqual(caught.exception.limit, "facts")

    def test_exactly_so_many(self):
        square = rule("p", [X, Y], holds("a", X), holds("b", Y))
        facts = [("a", (at,)) for at in range(40)] + [("b", (at,)) for at in range(100)]
        more = [("c", (at,)) for at in range(5000 - 4000 - 140)]
        self.assertEqual(len(model([square], facts + more)), 5000)
        for last in ([("c", (-1,))], [("a", (-1,))]):
            with self.assertRaises(TooLarge):
                model([square], facts + more + last)
        # One fact too many in the end, by a rule of the last layer.
        with self.assertRaises(TooLarge):
            model([square, rule("d", [], fails("p", 0, -1))], facts + more)

    def test_a_model_that_grows_for_many_rounds(self):
        with self.assertRaises(TooLarge):
            model(WAY, [("edge", (at, at + 1)) for at in range(120)])

    def test_which_error_comes_first(self):
        many = [("n", (at,)) for at in range(2001)]
        for rules, error in (([rule("p", [X])], InvalidRules), ([rule("p", [], fails("p"))], NotLayered)):
            with self.assertRaises(error):
                model(rules, many)
            with self.assertRaises(error):
                ask(rules, many, ("p", ()))
        with self.assertRaises(TooLarge) as caught:
            model([rule("p", [])] * 41, many)
        self.assertEqual(caught.exception.limit, "rules")


class AskTests(unittest.TestCase):
    def test_variables_that_stand_once(self):
        self.assertEqual(ask(RULES, FACTS, ("way", (X, Y))), [("way", (1, 2)), ("way", (1, 3)), ("way", (2, 3))])
        self.assertEqual(ask(RULES, FACTS, ("way", (1, Y))), [("way", (1, 2)), ("way", (1, 3))])

    def test_variables_that_stand_several_times(self):
        self.assertEqual(ask(RULES, FACTS, ("lost", (X, X))), [("lost", (1, 1)), ("lost", (3, 3))])
        facts = [("t", (1, 2, 1)), ("t", (2, 2, 2)), ("t", (1, 1, 2)), ("t", ("1", 2, 1))]
        self.assertEqual(ask([], facts, ("t", (X, Y, X))), [("t", (1, 2, 1)), ("t", (2, 2, 2))])
        self.assertEqual(ask([], facts, ("t", (X, X, X))), [("t", (2, 2, 2))])

    def test_constants(self):
        self.assertEqual(ask(RULES, FACTS, ("way", (1, 3))), [("way", (1, 3))])
        self.assertEqual(ask(RULES, FACTS, ("way", (3, 1))), [])
        facts = [("p", (constant,)) for constant in CONSTANTS]
        for constant in CONSTANTS:
            self.assertEqual(ask([], facts, ("p", (constant,))), [("p", (constant,))])

    def test_other_numbers_of_terms(self):
        facts = [("p", ()), ("p", (1,)), ("p", (1, 2))]
        self.assertEqual(ask([], facts, ("p", (X,))), [("p", (1,))])
        self.assertEqual(ask([], facts, ("p", ())), [("p", ())])
        self.assertEqual(ask([], facts, ("p", (X, Y, Z))), [])
        self.assertEqual(ask(RULES, FACTS, ("way", (1,))), [])

    def test_names_that_no_rule_has(self):
        self.assertEqual(ask(RULES, FACTS + [("much", (2,)), ("much", (1,))], ("much", (X,))), [("much", (1,)), ("much", (2,))])
        self.assertEqual(ask(RULES, FACTS, ("none", (X,))), [])

    def test_answers_are_in_order(self):
        facts = [("p", (constant,)) for constant in ("b", (0,), 3, "a", -2, ())]
        self.assertEqual(ask([], facts, ("p", (X,))), [("p", (constant,)) for constant in (-2, 3, "a", "b", (), (0,))])

    def test_denied_atoms(self):
        self.assertEqual(ask(WAY + [LOST], FACTS, ("lost", (1, X))), [("lost", (1, 1))])


if __name__ == "__main__":
    unittest.main()
