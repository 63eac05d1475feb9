import itertools
import random
import unittest

from retroact.errors import InvalidRules, NotLayered, TooLarge
from retroact.rules import bind, check_rules, fact_key, layers, sorted_facts

from tests.helpers import frozen
from tests.logic import RULES, RuleMaker, X, Y, Z, fails, holds, rule


def trouble(rules, call=check_rules):
    """Return what is wrong with rules: ("large", limit), ("rule", number), ("layers", names), or None."""
    try:
        call(rules)
    except TooLarge as error:
        return ("large", error.limit)
    except InvalidRules as error:
        return ("rule", error.number)
    except NotLayered as error:
        return ("layers", error.names)
    return None


GOOD = rule("p", [X], holds("q", X))
NOT_PROPER = rule("p", [X], holds("q", Y))
NOT_LAYERED = rule("p", [X], holds("q", X), fails("p", X))


class ProperTests(unittest.TestCase):
    def test_proper_rules(self):
        self.assertIsNone(check_rules([]))
        self.assertIsNone(check_rules(RULES))
        self.assertIsNone(check_rules([rule("p", []), rule("p", [], fails("q", 1)), rule("r", [1, "s", (0, 1)], ("less", 2, 1))]))
        self.assertIsNone(check_rules([rule("p", [X, X], holds("q", X, Y), ("differs", X, Y), ("atmost", Y, 3), fails("r", Y))]))

    def test_each_variable_stands_in_an_item_that_holds(self):
        for bad in (rule("p", [X]), rule("p", [X], fails("q", X)), rule("p", [X], ("same", X, 1)), rule("p", [X, Y], holds("q", X)),
                    rule("p", [1], holds("q", X), fails("r", X, Y)), rule("p", [], fails("r", X)), rule("p", [], ("same", X, X)),
                    rule("p", [], holds("q", X), ("less", X, Y)), rule("p", [], holds("q", X), ("atmost", Y, X)),
                    rule("p", [], holds("q", X), ("differs", 1, Y)), rule("p", [], holds("q", X), fails("q", Z))):
            self.assertEqual(trouble([bad]), ("rule", 0))
            self.assertEqual(trouble([GOOD, rule("s", []), bad, bad]), ("rule", 2))

    def test_an_item_that_holds_may_stand_behind_those_that_need_it(self):
        self.assertIsNone(check_rules([rule("p", [X], ("less", X, Y), fails("r", Y), holds("q", Y), holds("q", X))]))

    def test_numbers_of_terms_in_a_rule(self):
        for bad in (rule("p", [X], holds("p", X, X)), rule("p", [], holds("q", X), holds("q", X, X)),
                    rule("p", [], holds("q", X), fails("q")), rule("p", [1], fails("p"))):
            self.assertEqual(trouble([bad]), ("rule", 0))

    def test_numbers_of_terms_in_earlier_rules(self):
        first = rule("p", [X], holds("q", X), fails("r", X, 1))
        for bad in (rule("p", []), rule("q", [1, 2]), rule("r", [1]), rule("s", [], holds("q", X, X)), rule("s", [], fails("r", 1))):
            self.assertIsNone(check_rules([bad]))
            self.assertEqual(trouble([first, bad]), ("rule", 1))
            self.assertEqual(trouble([rule("s", []), first, rule("t", []), bad]), ("rule", 3))
            self.assertEqual(trouble([bad, first]), ("rule", 1))

    def test_a_path_is_no_variable(self):
        self.assertIsNone(check_rules([rule("p", [(), (0,), (0, 1), "variable"], ("same", (0, 1), "x"))]))


class LimitTests(unittest.TestCase):
    def test_rules(self):
        self.assertIsNone(check_rules([rule("p", [number]) for number in range(40)]))
        self.assertEqual(trouble([rule("p", [number]) for number in range(41)]), ("large", "rules"))

    def test_items(self):
        self.assertIsNone(check_rules([rule("p", [X], *[holds("q", X)] * 8)]))
        for item in (holds("q", X), fails("r", X), ("same", X, X)):
            self.assertIsNone(check_rules([GOOD, rule("p", [X], holds("q", X), *[item] * 7)]))
            self.assertEqual(trouble([GOOD, rule("p", [X], holds("q", X), *[item] * 8)]), ("large", "rules"))

    def test_which_error_comes_first(self):
        many = rule("p", [1], *[("same", 1, 1)] * 9)
        self.assertEqual(trouble([NOT_LAYERED, NOT_PROPER, many]), ("large", "rules"))
        self.assertEqual(trouble([NOT_PROPER] + [NOT_LAYERED] * 40), ("large", "rules"))
        self.assertEqual(trouble([NOT_LAYERED, NOT_LAYERED, NOT_PROPER]), ("rule", 2))
        self.assertEqual(trouble([NOT_LAYERED] * 2), ("layers", ["p"]))
        for rules in ([many], [NOT_LAYERED, NOT_PROPER], [NOT_LAYERED]):
            self.assertEqual(trouble(rules, layers), trouble(rules))


def leaning(*rows):
    """Return rules without terms: a row is a word such as `a-b!c`, by which a leans on b, and on c by denial."""
    found = []
    for row in rows:
        items = [(fails if sign == "!" else holds)(name) for sign, name in zip(row[1::2], row[2::2])]
        found.append(rule(row[0], [], *items))
    return found


class LayerTests(unittest.TestCase):
    def test_layers(self):
        self.assertEqual(layers([]), {})
        self.assertEqual(layers(RULES), {"way": 0, "edge": 0, "lost": 1, "spot": 0})
        self.assertEqual(layers(leaning("a-b", "b!c", "c-d", "d!e", "e")), {"a": 2, "b": 2, "c": 1, "d": 1, "e": 0})
        self.assertEqual(layers(leaning("a!b!c", "b!c", "d-a!c")), {"a": 2, "b": 1, "c": 0, "d": 2})

    def test_names_in_bodies_alone(self):
        self.assertEqual(layers([rule("p", [], holds("q", 1), fails("r"), ("same", 1, 1))]), {"p": 1, "q": 0, "r": 0})

    def test_the_order_of_rules_does_not_matter(self):
        rules = leaning("a!b", "b-c", "c!d", "a-d", "d!e")
        for row in itertools.permutations(rules):
            self.assertEqual(layers(list(row)), {"a": 3, "b": 2, "c": 2, "d": 1, "e": 0})

    def test_chains_that_come_back_without_denial(self):
        self.assertEqual(layers(leaning("a-a")), {"a": 0})
        self.assertEqual(layers(leaning("a-b", "b-c", "c-a!d")), {"a": 1, "b": 1, "c": 1, "d": 0})
        self.assertEqual(layers(leaning("a-b", "b-a", "c!a")), {"a": 0, "b": 0, "c": 1})

    def test_chains_that_come_back_with_denial(self):
        self.assertEqual(trouble(leaning("a!a")), ("layers", ["a"]))
        self.assertEqual(trouble(leaning("a-b", "b-c", "c!a")), ("layers", ["a", "b", "c"]))
        self.assertEqual(trouble(leaning("b!a", "a!b")), ("layers", ["a", "b"]))
        self.assertEqual(trouble(leaning("a-a!a")), ("layers", ["a"]))

    def test_all_names_of_all_such_chains(self):
        # d leads to a chain and e comes from one: neither lies on it; f and g are a chain without denial.
        self.assertEqual(trouble(leaning("d-a", "a!b", "b-a-e", "e!h", "f-g", "g-f!a")), ("layers", ["a", "b"]))
        self.assertEqual(trouble(leaning("a!b", "b-a", "c!c", "d!a", "y-z", "z!y")), ("layers", ["a", "b", "c", "y", "z"]))
        # From p a chain goes to the denial of the other two and back.
        self.assertEqual(trouble(leaning("p-q", "q-p!r", "r-q")), ("layers", ["p", "q", "r"]))

    def test_random_leanings(self):
        """The names are those of which a chain comes back with a denial, found by going on chains of any kind."""
        dice = random.Random(5)
        for _ in range(300):
            rows = [(dice.choice("abcdef"), dice.choice("-!-"), dice.choice("abcdef")) for _ in range(dice.randint(1, 8))]
            rules = leaning(*["".join(row) for row in rows])
            # Pairs (name, True if a denial was on the way) that a chain from a name comes to.
            ways = {(name, other, sign == "!") for name, sign, other in rows}
            for _ in range(8):
                ways |= {(a, d, p or q) for a, b, p in ways for c, d, q in ways if b == c}
            names = sorted({a for a, b, p in ways if a == b and p})
            self.assertEqual(trouble(rules), ("layers", names) if names else None)
            if not names:
                longest = {name: 0 for row in rows for name in (row[0], row[2])}
                for _ in range(10):
                    for name, sign, other in rows:
                        longest[name] = max(longest[name], longest[other] + (sign == "!"))
                self.assertEqual(layers(rules), longest)

    def test_rules_stay_as_they_are(self):
        before = frozen(RULES)
        layers(RULES)
        self.assertEqual(RULES, before)


ORDERED = [
    ("a", ()), ("a", (-5,)), ("a", (-1, "z")), ("a", (0,)), ("a", (0, -1)), ("a", (0, 3)), ("a", (0, "")), ("a", (0, ())),
    ("a", (10,)), ("a", (10, 0, 0)), ("a", ("",)), ("a", ("10",)), ("a", ("9", 5)), ("a", ("s",)), ("a", ("s", (1,))), ("a", ("sa",)),
    ("a", ((),)), ("a", ((), 0)), ("a", ((-1,),)), ("a", ((0,),)), ("a", ((0, 0),)), ("a", ((0, 1),)), ("a", ((0, 1), -7)), ("a", ((2,),)),
    ("aa", ()), ("b", (-9,)), ("b", (-9, -9)),
]


class OrderTests(unittest.TestCase):
    def test_order(self):
        dice = random.Random(1)
        for _ in range(50):
            facts = list(ORDERED)
            dice.shuffle(facts)
            self.assertEqual(sorted_facts(facts), ORDERED)
            self.assertEqual(sorted(facts, key=fact_key), ORDERED)

    def test_keys_of_each_two_facts(self):
        for first, second in itertools.combinations(ORDERED, 2):
            self.assertLess(fact_key(first), fact_key(second))
            self.assertFalse(fact_key(second) <= fact_key(first))
        self.assertEqual(fact_key(("a", (1, "s", (0,)))), fact_key(("a", (1, "s", (0,)))))

    def test_each_fact_once(self):
        self.assertEqual(sorted_facts([("b", (1,)), ("a", ((0,),)), ("b", (1,)), ("a", (5,)), ("b", (1,))]),
                         [("a", (5,)), ("a", ((0,),)), ("b", (1,))])
        self.assertEqual(sorted_facts([]), [])

    def test_the_list_stays_as_it_is(self):
        facts = [("b", ()), ("a", ()), ("b", ())]
        found = sorted_facts(facts)
        self.assertEqual((facts, found), ([("b", ()), ("a", ()), ("b", ())], [("a", ()), ("b", ())]))
        self.assertIsNot(sorted_facts(found), found)


class BindTests(unittest.TestCase):
    def test_bind(self):
        self.assertEqual(bind(("p", (X, 1, Y, X)), {"x": "s", "y": (0,), "z": 3}), ("p", ("s", 1, (0,), "s")))
        self.assertEqual(bind(("p", ()), {}), ("p", ()))
        self.assertEqual(bind(("p", ((0, 1), "x", ())), {"x": 2}), ("p", ((0, 1), "x", ())))

    def test_constants_that_could_be_missed(self):
        self.assertEqual(bind(("p", (X, Y)), {"x": 0, "y": ()}), ("p", (0, ())))

    def test_a_constant_that_is_missing(self):
        for constants in ({}, {"x": 1}, {"y": 1}, {"z": 1}):
            self.assertIsNone(bind(("p", (X, Y)), constants))

    def test_random_rules_are_proper_unless_their_layers_are_not(self):
        for seed in range(200):
            maker = RuleMaker(seed)
            rules = [maker.rule() for _ in range(5)]
            self.assertIn((trouble(rules) or ("layers",))[0], ("layers",))


if __name__ == "__main__":
    unittest.main()
