import unittest

from retroact.answers import model
from retroact.errors import InvalidRules, NotLayered, TooLarge
from retroact.papers import accepts_book, accepts_derivation, derivation, make_book

from tests.helpers import frozen
from tests.logic import (
    CONSTANTS, FACTS, RULES, WAY, X, Y, depth_of, fact_of, fails, holds, is_reason_right, rule, samples, slow_accepts,
    slow_depths,
)

GIVEN = ("given",)
# A book that somebody else wrote, with its steps in another order than those that are made.
BOOK = [
    (("spot", (3,)), GIVEN), (("edge", (2, 3)), GIVEN), (("way", (2, 3)), ("rule", 0, [("y", 3), ("x", 2)])),
    (("lost", (3, 3)), ("rule", 2, [("y", 3), ("x", 3)])), (("edge", (1, 2)), GIVEN), (("way", (1, 2)), ("rule", 0, [("x", 1), ("y", 2)])),
    (("way", (1, 3)), ("rule", 1, [("z", 3), ("x", 1), ("y", 2)])), (("spot", (1,)), GIVEN),
    (("lost", (1, 1)), ("rule", 2, [("x", 1), ("y", 1)])), (("lost", (3, 1)), ("rule", 2, [("x", 3), ("y", 1)])),
]


def with_step(book, fact, *reasons):
    """Return a book in which the step of a fact has other reasons, each in a step of its own; without one it is left out."""
    found = []
    for step in book:
        found += [(fact, reason) for reason in reasons] if step[0] == fact else [step]
    return found


class BookTests(unittest.TestCase):
    def test_books_that_are_made(self):
        book = make_book(RULES, FACTS)
        self.assertTrue(accepts_book(RULES, FACTS, book))
        self.assertEqual(book[:4], [(fact, GIVEN) for fact in FACTS])
        self.assertEqual(book[-1], (("lost", (3, 3)), ("rule", 2, [("x", 3), ("y", 3)])))
        self.assertIn((("way", (1, 3)), ("rule", 1, [("x", 1), ("y", 2), ("z", 3)])), book)
        self.assertEqual((make_book([], []), make_book([], FACTS + FACTS)), ([], book[:4]))

    def test_random_books_that_are_made(self):
        for rules, facts, _ in samples(250):
            book = make_book(rules, facts)
            self.assertTrue(accepts_book(rules, facts, book))
            self.assertTrue(slow_accepts(rules, facts, book))
            self.assertEqual(sorted([repr(fact) for fact, _ in book]), sorted([repr(fact) for fact in model(rules, facts)]))
            for _, reason in book:
                self.assertTrue(reason == GIVEN or list(reason[2]) == sorted(reason[2]))

    def test_facts_are_given_rather_than_found(self):
        self.assertIn((("way", (1, 2)), GIVEN), make_book(RULES, FACTS + [("way", (1, 2))]))

    def test_an_own_book(self):
        self.assertTrue(slow_accepts(RULES, FACTS, BOOK))
        self.assertTrue(accepts_book(RULES, FACTS, BOOK))
        self.assertTrue(accepts_book(RULES, FACTS + FACTS, BOOK))
        self.assertTrue(accepts_book([], [], []))

    def refused(self, book, rules=RULES, facts=FACTS):
        self.assertFalse(slow_accepts(rules, facts, book))
        self.assertFalse(accepts_book(rules, facts, book))

    def test_a_fact_in_two_steps(self):
        self.refused(BOOK + [BOOK[0]])
        self.refused(BOOK + [(("way", (1, 2)), ("rule", 0, [("x", 1), ("y", 2)]))])
        self.assertTrue(accepts_book(WAY, FACTS + [("way", (1, 2))], make_book(WAY, FACTS + [("way", (1, 2))])))
        self.refused([(fact, GIVEN) for fact in FACTS + FACTS[:1]], [])

    def test_given_facts_left_out(self):
        self.refused([], [], FACTS)
        self.refused([(fact, GIVEN) for fact in FACTS[1:]], [])
        self.refused(BOOK, RULES, FACTS + [("other", ())])

    def test_given_as_a_reason_of_others(self):
        self.refused(with_step(BOOK, ("way", (1, 2)), GIVEN))
        self.refused([(("p", ()), GIVEN)], [], [])

    def test_a_rule_as_the_reason_of_a_given_fact(self):
        rules = [rule("p", [])]
        self.assertTrue(accepts_book(rules, [("p", ())], [(("p", ()), ("rule", 0, []))]))
        self.assertTrue(accepts_book(rules, [("p", ())], [(("p", ()), GIVEN)]))

    def test_wrong_rules(self):
        pairs = [("x", 1), ("y", 2)]
        for number in (-3, -1, 1, 2, 3, 40):
            self.refused(with_step(BOOK, ("way", (1, 2)), ("rule", number, pairs)))
        self.refused([(("p", ()), ("rule", -1, []))], [rule("p", [])], [])

    def test_pairs(self):
        for pairs in ([("x", 1)], [("y", 2)], [], [("x", 1), ("y", 2), ("z", 3)], [("x", 1), ("y", 2), ("y", 2)], [("x", 1), ("x", 1)],
                      [("x", 1), ("z", 2)], [("x", 1), ("y", 2), ("", 0)], [("x", 1), ("x", 1), ("y", 2), ("y", 2)],
                      [("x", 3), ("x", 1), ("y", 2)]):
            self.refused(with_step(BOOK, ("way", (1, 2)), ("rule", 0, pairs)))

    def test_another_head(self):
        for pairs in ([("x", 2), ("y", 3)], [("x", 1), ("y", 3)], [("x", 1), ("y", "2")]):
            self.refused(with_step(BOOK, ("way", (1, 2)), ("rule", 0, pairs)))
        self.refused(BOOK + [(("way", (1, 2, 3)), ("rule", 0, [("x", 1), ("y", 2)]))])
        self.refused(BOOK + [(("path", (1, 2)), ("rule", 0, [("x", 1), ("y", 2)]))])

    def test_a_fact_that_holds_in_a_later_step(self):
        rest = [step for step in BOOK if step[0] != ("way", (1, 3))]
        step = [step for step in BOOK if step not in rest]
        for at in range(len(BOOK)):
            ahead = [fact for fact, _ in rest[:at]]
            self.assertEqual(accepts_book(RULES, FACTS, rest[:at] + step + rest[at:]), ("edge", (2, 3)) in ahead and ("way", (1, 2)) in ahead)
        self.refused(list(reversed(BOOK)))
        # A fact whose reason is itself.
        own = [rule("p", [], holds("p"))]
        self.refused([(("p", ()), ("rule", 0, []))], own, [])
        self.assertTrue(accepts_book(own, [], []))

    def test_a_fact_that_holds_in_no_step(self):
        rules = [rule("p", [X], holds("q", X), holds("r", X))]
        facts = [("q", (1,))]
        self.refused([(("q", (1,)), GIVEN), (("p", (1,)), ("rule", 0, [("x", 1)]))], rules, facts)

    def test_a_fact_that_fails_in_a_step_before_or_behind(self):
        rules = [rule("p", [X], holds("q", X), fails("r", X))]
        facts = [("q", (1,)), ("r", (1,))]
        steps = [(("q", (1,)), GIVEN), (("p", (1,)), ("rule", 0, [("x", 1)]))]
        self.assertTrue(accepts_book(rules, facts[:1], steps))
        for at in range(3):
            self.refused(steps[:at] + [(("r", (1,)), GIVEN)] + steps[at:], rules, facts)
        self.assertTrue(accepts_book(rules, facts, [steps[0], (("r", (1,)), GIVEN)]))

    def test_comparisons_that_are_not_true(self):
        facts = [("q", (1, 2)), ("q", ("a", "b")), ("q", (2, 2))]
        for word, true in (("less", [0]), ("atmost", [0, 2]), ("same", [2]), ("differs", [0, 1])):
            rules = [rule("p", [X, Y], holds("q", X, Y), (word, X, Y))]
            given = [(fact, GIVEN) for fact in facts]
            steps = [(("p", fact[1]), ("rule", 0, [("x", fact[1][0]), ("y", fact[1][1])])) for fact in facts]
            self.assertTrue(accepts_book(rules, facts, given + [steps[at] for at in true]))
            for at in range(3):
                # A step more, whose comparison is not true, or a step less.
                others = [k for k in range(3) if (k in true) != (k == at)]
                self.refused(given + [steps[k] for k in others], rules, facts)

    def test_a_head_that_is_missing(self):
        for fact in [("lost", (1, 1)), ("lost", (3, 3)), ("lost", (3, 1)), ("way", (1, 3))]:
            self.refused(with_step(BOOK, fact))
        self.refused([], [rule("p", [])], [])
        self.refused([(("q", (1,)), GIVEN)], [rule("p", [], holds("q", X), fails("q", 2))], [("q", (1,))])
        # Without the way from 1 to 3 the spot 3 would be lost for the spot 1, but this is wrong.
        book = with_step(BOOK, ("way", (1, 3))) + [(("lost", (1, 3)), ("rule", 2, [("x", 1), ("y", 3)]))]
        self.refused(book)

    def test_the_model_has_the_only_accepted_books(self):
        """Books of rules that are not the model, as a whole set of facts that supports itself, are refused."""
        rules = [rule("p", [], holds("q")), rule("q", [], holds("p")), rule("r", [], fails("p"))]
        loop = [(("p", ()), ("rule", 0, [])), (("q", ()), ("rule", 1, []))]
        self.refused(loop, rules, [])
        self.assertTrue(accepts_book(rules, [], [(("r", ()), ("rule", 2, []))]))

    def test_random_books_that_were_changed(self):
        accepted = 0
        for rules, facts, maker in samples(250):
            book = make_book(rules, facts)
            for _ in range(6):
                other = changed(book, rules, maker)
                self.assertEqual(accepts_book(rules, facts, other), slow_accepts(rules, facts, other))
                accepted += accepts_book(rules, facts, other)
        self.assertGreater(accepted, 100)

    def test_nothing_that_is_passed_changes(self):
        before = frozen([RULES, FACTS, BOOK])
        accepts_book(RULES, FACTS, BOOK)
        make_book(RULES, FACTS)[4][1][2].clear()
        self.assertEqual([RULES, FACTS, BOOK], before)
        self.assertTrue(accepts_book(RULES, FACTS, make_book(RULES, FACTS)))

    def test_errors(self):
        for call in (make_book, lambda rules, facts: derivation(rules, facts, ("p", ()))):
            for rules, facts, error in (([rule("p", [])] * 41, [], TooLarge), ([rule("p", [X])], [], InvalidRules),
                                        ([rule("p", [], fails("p"))], [], NotLayered), ([], [("n", (k,)) for k in range(2001)], TooLarge)):
                with self.assertRaises(error):
                    call(rules, facts)


def changed(book, rules, maker):
    """Return a book with one or two random changes."""
    book = list(book)
    for _ in range(maker.dice.randint(1, 2)):
        way = maker.dice.choice(("swap", "leave", "twice", "reason", "constant", "more", "turn"))
        at = maker.dice.randrange(len(book)) if book else 0
        if way == "more" or not book:
            book.insert(at, (maker.dice.choice(maker.facts() or [("flag", ())]), GIVEN))
        elif way == "swap":
            other = maker.dice.randrange(len(book))
            book[at], book[other] = book[other], book[at]
        elif way == "leave":
            del book[at]
        elif way == "twice":
            book.insert(maker.dice.randrange(len(book)), book[at])
        elif way == "turn":
            book = book[at:] + book[:at]
        elif way == "reason":
            book[at] = (book[at][0], maker.dice.choice((GIVEN, ("rule", maker.dice.randint(-1, len(rules)), []))))
        elif book[at][1] != GIVEN and book[at][1][2]:
            pairs = list(book[at][1][2])
            k = maker.dice.randrange(len(pairs))
            pairs[k] = (pairs[k][0], maker.dice.choice(CONSTANTS))
            book[at] = (book[at][0], ("rule", book[at][1][1], pairs))
    return book


def is_derivation(rules, facts, known, steps):
    """Tell if steps are a derivation, by the words of the document."""
    stated = [fact for fact, _ in steps]
    if not steps or len(set(stated)) != len(stated):
        return False
    for at, (fact, reason) in enumerate(steps):
        if not is_reason_right(rules, facts, set(known), stated[:at], fact, reason):
            return False
    for at, fact in enumerate(stated[:-1]):
        later = [(rules[reason[1]][1], dict(reason[2])) for _, reason in steps[at + 1:] if reason != GIVEN]
        if fact not in [fact_of(item[1], constants) for items, constants in later for item in items if item[0] == "holds"]:
            return False
    return True


WAY_STEPS = [(("edge", (1, 2)), GIVEN), (("way", (1, 2)), ("rule", 0, [("x", 1), ("y", 2)])), (("edge", (2, 3)), GIVEN),
             (("way", (1, 3)), ("rule", 1, [("x", 1), ("y", 2), ("z", 3)]))]


class DerivationTests(unittest.TestCase):
    def test_of_given_facts(self):
        self.assertEqual(derivation(RULES, FACTS, ("spot", (3,))), [(("spot", (3,)), GIVEN)])
        # A rule would give it, too, but in more depth.
        self.assertEqual(derivation(RULES, FACTS + [("way", (1, 3))], ("way", (1, 3))), [(("way", (1, 3)), GIVEN)])

    def test_of_what_does_not_hold(self):
        for fact in (("way", (3, 1)), ("lost", (1, 3)), ("spot", (2,)), ("spot", ()), ("none", ()), ("way", ("1", 2))):
            self.assertIsNone(derivation(RULES, FACTS, fact))
        self.assertIsNone(derivation([], [], ("p", ())))

    def test_of_rules(self):
        self.assertEqual(sorted(derivation(RULES, FACTS, ("way", (1, 3))), key=repr), sorted(WAY_STEPS, key=repr))
        self.assertEqual(derivation(RULES, FACTS, ("lost", (3, 1)))[-1], (("lost", (3, 1)), ("rule", 2, [("x", 3), ("y", 1)])))
        self.assertEqual(derivation([rule("p", [])], [], ("p", ())), [(("p", ()), ("rule", 0, []))])

    def test_least_depth(self):
        edges = [("edge", pair) for pair in ((1, 2), (2, 3), (3, 4), (4, 5), (1, 4), (2, 5))]
        steps = derivation(WAY, edges, ("way", (1, 5)))
        self.assertEqual(depth_of(WAY, steps), 2)
        self.assertEqual(len(steps), 4)
        # A rule of a later layer leads there in less depth than the one of the first layer.
        rules = [rule("a", [X], holds("n", X)), rule("b", [X], holds("a", X)), rule("c", [X], holds("b", X)),
                 rule("d", [X], holds("c", X)), rule("d", [X], holds("n", X), fails("none", X))]
        self.assertEqual(derivation(rules, [("n", (1,))], ("d", (1,))), [(("n", (1,)), GIVEN), (("d", (1,)), ("rule", 4, [("x", 1)]))])

    def test_least_depth_over_layers(self):
        """A fact of a lower layer that is deep does not stand in the way of one of a higher layer that is not."""
        rules = [rule("a", [X], holds("n", X)), rule("b", [X], holds("a", X)), rule("c", [X], fails("z", X), holds("n", X)),
                 rule("goal", [], holds("b", X), fails("z", X)), rule("goal", [], holds("c", X), holds("n", X))]
        self.assertEqual(depth_of(rules, derivation(rules, [("n", (1,))], ("goal", ()))), 2)

    def test_random_derivations(self):
        for rules, facts, maker in samples(200):
            known = model(rules, facts)
            depths = slow_depths(rules, facts, set(known))
            self.assertEqual(set(depths), set(known))
            for fact in maker.dice.sample(known, min(8, len(known))):
                steps = derivation(rules, facts, fact)
                self.assertEqual(steps[-1][0], fact)
                self.assertTrue(is_derivation(rules, facts, known, steps))
                self.assertTrue(accepts_derivation(rules, facts, known, steps))
                self.assertEqual(depth_of(rules, steps), depths[fact])
                self.assertTrue(all([reason == GIVEN or reason[2] == sorted(reason[2]) for _, reason in steps]))

    def test_long_derivations(self):
        chain = [("edge", (at, at + 1)) for at in range(90)]
        steps = derivation(WAY, chain, ("way", (0, 90)))
        self.assertEqual((len(steps), depth_of(WAY, steps)), (180, 90))
        self.assertTrue(accepts_derivation(WAY, chain, [], steps))


class AcceptTests(unittest.TestCase):
    def accepts(self, steps, rules=RULES, facts=FACTS, known=()):
        known = list(known)
        self.assertEqual(accepts_derivation(rules, facts, known, steps), is_derivation(rules, facts, known, steps))
        return accepts_derivation(rules, facts, known, steps)

    def test_an_empty_list(self):
        self.assertFalse(accepts_derivation(RULES, FACTS, [], []))

    def test_derivations(self):
        self.assertTrue(self.accepts(WAY_STEPS))
        self.assertTrue(self.accepts(WAY_STEPS[:2]))
        self.assertTrue(self.accepts(WAY_STEPS[:1]))
        self.assertTrue(self.accepts([WAY_STEPS[2], WAY_STEPS[0], WAY_STEPS[1], WAY_STEPS[3]]))

    def test_steps_that_are_not_needed(self):
        self.assertFalse(self.accepts(WAY_STEPS[:3]))
        self.assertFalse(self.accepts([(("spot", (1,)), GIVEN)] + WAY_STEPS))
        self.assertFalse(self.accepts(WAY_STEPS + [(("spot", (1,)), GIVEN)]))
        # The second way would be needed by an earlier step alone.
        self.assertFalse(self.accepts(WAY_STEPS + [WAY_STEPS[0]]))

    def test_a_fact_twice(self):
        self.assertFalse(self.accepts(WAY_STEPS[:1] + WAY_STEPS))
        self.assertFalse(self.accepts(WAY_STEPS[:2] + WAY_STEPS[1:]))
        self.assertFalse(self.accepts([WAY_STEPS[0], WAY_STEPS[0]]))

    def test_given_facts(self):
        self.assertFalse(self.accepts([(("way", (1, 2)), GIVEN)]))
        self.assertFalse(self.accepts(WAY_STEPS, facts=FACTS[1:]))
        self.assertTrue(self.accepts([(("way", (1, 2)), GIVEN)], facts=[("way", (1, 2))]))

    def test_rules_and_pairs(self):
        for reason in [("rule", number, [("x", 1), ("y", 2)]) for number in (-3, -1, 1, 2, 3)] + [
                ("rule", 0, pairs) for pairs in ([], [("x", 1)], [("x", 1), ("y", 2), ("y", 2)], [("x", 1), ("y", 2), ("z", 2)],
                                                 [("x", 1), ("z", 2)], [("x", 1), ("y", 3)], [("y", 1), ("x", 2)])]:
            self.assertFalse(self.accepts([WAY_STEPS[0], (("way", (1, 2)), reason)]))
        self.assertTrue(self.accepts([WAY_STEPS[0], (("way", (1, 2)), ("rule", 0, [("y", 2), ("x", 1)]))]))

    def test_facts_that_hold_later_or_not_at_all(self):
        self.assertFalse(self.accepts([WAY_STEPS[1]]))
        self.assertFalse(self.accepts([WAY_STEPS[1], WAY_STEPS[0]]))
        self.assertFalse(self.accepts([WAY_STEPS[3], *WAY_STEPS[:3]]))
        # The list of facts that are known is no source of steps.
        self.assertFalse(self.accepts([WAY_STEPS[1]], known=[("edge", (1, 2))]))

    def test_facts_that_fail_are_looked_for_among_the_known_ones(self):
        steps = [(("spot", (1,)), GIVEN), (("spot", (3,)), GIVEN), (("lost", (1, 3)), ("rule", 2, [("x", 1), ("y", 3)]))]
        self.assertTrue(self.accepts(steps))
        self.assertTrue(self.accepts(steps, known=[("way", (3, 1)), ("way", (1, 2))]))
        self.assertFalse(self.accepts(steps, known=[("way", (1, 3))]))
        self.assertFalse(self.accepts(steps, known=model(RULES, FACTS)))
        # That a fact stands in a step does not matter.
        rules = [rule("p", [], holds("q"), fails("q"))]
        steps = [(("q", ()), GIVEN), (("p", ()), ("rule", 0, []))]
        self.assertTrue(self.accepts(steps, rules, [("q", ())]))
        self.assertFalse(self.accepts(steps, rules, [("q", ())], [("q", ())]))

    def test_comparisons(self):
        rules = [rule("p", [X, Y], holds("q", X, Y), ("less", X, Y))]
        for pair, is_true in (((1, 2), True), ((2, 1), False), ((1, 1), False), (("a", "b"), False)):
            facts = [("q", pair)]
            steps = [(("q", pair), GIVEN), (("p", pair), ("rule", 0, [("x", pair[0]), ("y", pair[1])]))]
            self.assertEqual(self.accepts(steps, rules, facts), is_true)

    def test_random_steps_that_were_changed(self):
        accepted = 0
        for rules, facts, maker in samples(200):
            known = model(rules, facts)
            for fact in maker.dice.sample(known, min(6, len(known))):
                steps = changed(derivation(rules, facts, fact), rules, maker)
                accepted += self.accepts(steps, rules, facts, maker.dice.choice((known, [], maker.facts())))
        self.assertGreater(accepted, 30)

    def test_nothing_that_is_passed_changes(self):
        before = frozen([RULES, FACTS, WAY_STEPS])
        accepts_derivation(RULES, FACTS, FACTS, WAY_STEPS)
        derivation(RULES, FACTS, ("way", (1, 3)))[-1][1][2].clear()
        self.assertEqual([RULES, FACTS, WAY_STEPS], before)


if __name__ == "__main__":
    unittest.main()
