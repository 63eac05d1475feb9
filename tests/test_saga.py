import itertools
import random
import unittest

from retroact.differences import calls_since, difference
from retroact.errors import InvalidJournal
from retroact.history import states_of
from retroact.plans import plan
from retroact.prices import Prices
from retroact.saga import Outside, Saga

from tests.helpers import frozen
from tests.samples import histories

WORDS = ("no", "there", "back")
A, B, C = (((), 0), "pay", (10,)), (((), 1), "pay", (3,)), (((0,), 0), "ring", ())
# The first one has the key of A, the second one that of B.
D, E, F = (((), 0), "pay", (12,)), (((), 1), "ring", ()), (((2,), 5), "pay", (3,))
OTHER = (((7,), 0), "pay", (1,))
THERE, HERE = [A, B, C], [D, E, F]
DEEDS = [("change", 0, 0), ("do", 1), ("undo", 1), ("change", 2, 2)]
SENT = [("change", A, D), ("do", E), ("undo", B), ("change", C, F)]
JOURNAL = "done 0\ndone 1\ndone 2\ndone 3\n"
# What is in force behind 0, 1, .. deeds.
IN_FORCE = [sorted(rows + [OTHER]) for rows in ([A, B, C], [D, B, C], [D, B, C, E], [D, C, E], [D, F, E])]


def run(saga, outside, most=1000):
    """Do steps until the saga is over, or so many of them; return what they returned."""
    steps = []
    while not saga.is_over and len(steps) < most:
        steps.append(saga.step(outside))
    return steps


def is_refused(text, deeds=DEEDS):
    try:
        Saga(THERE, HERE, deeds, text=text)
    except InvalidJournal:
        return True
    return False


class OutsideTests(unittest.TestCase):
    def test_deeds(self):
        outside = Outside([OTHER] + THERE)
        self.assertEqual((outside.in_force(), outside.done()), (IN_FORCE[0], []))
        for number, deed in enumerate(SENT):
            self.assertIs(outside.send(number, deed), True)
            self.assertEqual(outside.in_force(), IN_FORCE[number + 1])
            self.assertEqual(outside.done(), list(range(number + 1)))

    def test_calls_are_in_ascending_order(self):
        calls = [(((), 0), "pay", (1,)), (((), 0), "pay", (2,)), (((), 0), "ring", ()), (((), 2), "pay", (1,)),
                 (((), 10), "pay", (-9,)), (((0, 1), 0), "pay", (1,)), (((2,), 0), "pay", (1,)), (((10,), 0), "a", ())]
        for rows in (calls[::-1], calls[3:] + calls[:3]):
            self.assertEqual(Outside(rows).in_force(), calls)
        self.assertEqual(Outside([]).in_force(), [])

    def test_a_deed_is_not_done_again(self):
        outside = Outside([A, B])
        self.assertIs(outside.send(3, ("do", C)), True)
        for _ in range(3):
            self.assertIs(outside.send(3, ("do", C)), True)
        self.assertEqual((outside.in_force(), outside.done()), ([A, B, C], [3]))
        outside.send(0, ("undo", A))
        outside.send(1, ("change", B, A))
        outside.send(0, ("undo", A))
        outside.send(1, ("change", B, A))
        self.assertEqual((outside.in_force(), outside.done()), ([A, C], [3, 0, 1]))

    def test_numbers_in_the_order_in_which_they_were_done(self):
        outside = Outside([], losses=["no", "there", "back"])
        for number, deed in ((5, ("do", A)), (9, ("do", B)), (2, ("do", C)), (9, ("do", B)), (2, ("do", C)), (0, ("do", D))):
            outside.send(number, deed)
        self.assertEqual(outside.done(), [5, 2, 9, 0])

    def test_words_of_loss(self):
        for word, is_done, answered in (("no", True, True), ("there", False, False), ("back", True, False)):
            for before in range(3):
                outside = Outside([A], losses=["no"] * before + [word])
                for number in range(before):
                    self.assertIs(outside.send(number, ("do", B)), True)
                self.assertIs(outside.send(7, ("undo", A)), answered)
                self.assertEqual(A not in outside.in_force(), is_done)
                self.assertEqual(7 in outside.done(), is_done)
                # Behind the end of the list nothing is lost.
                self.assertIs(outside.send(7, ("undo", A)), True)
                self.assertEqual((outside.in_force(), outside.done()), ([B] * before, list(range(before)) + [7]))

    def test_each_sending_takes_a_word(self):
        # A deed that was done before, or is lost on the way, takes its word, too.
        outside = Outside([], losses=["back", "there", "back", "no", "there"])
        answers = [outside.send(number, ("do", A)) for number in (0, 0, 0, 0, 1, 1)]
        self.assertEqual(answers, [False, False, False, True, False, True])
        self.assertEqual((outside.in_force(), outside.done()), ([A, A], [0, 1]))

    def test_the_same_key_twice(self):
        outside = Outside([A])
        outside.send(0, ("do", D))
        self.assertEqual(outside.in_force(), [A, D])
        outside.send(1, ("undo", A))
        self.assertEqual(outside.in_force(), [D])
        outside = Outside([D, A])
        outside.send(0, ("undo", D))
        self.assertEqual(outside.in_force(), [A])
        outside = Outside([A, D])
        outside.send(0, ("change", D, B))
        self.assertEqual(outside.in_force(), [A, B])

    def test_the_same_call_twice(self):
        outside = Outside([A])
        outside.send(0, ("do", A))
        self.assertEqual(outside.in_force(), [A, A])
        outside.send(1, ("undo", A))
        self.assertEqual(outside.in_force(), [A])

    def test_nothing_is_shared(self):
        calls, losses = [A, B], ["there"]
        outside = Outside(calls, losses=losses)
        outside.send(0, ("undo", A))
        outside.send(0, ("undo", A))
        self.assertEqual((calls, losses), ([A, B], ["there"]))
        calls.clear()
        losses.extend(["there"] * 5)
        outside.in_force().clear()
        outside.done().clear()
        self.assertEqual((outside.in_force(), outside.done()), ([B], [0]))
        self.assertIs(outside.send(1, ("undo", B)), True)

    def test_losses_are_passed_by_name(self):
        with self.assertRaises(TypeError):
            Outside([], [])


class StepTests(unittest.TestCase):
    def test_without_losses(self):
        outside, saga = Outside([OTHER] + THERE), Saga(THERE, HERE, DEEDS)
        for number in range(4):
            self.assertIs(saga.is_over, False)
            self.assertEqual(outside.in_force(), IN_FORCE[number])
            self.assertEqual(saga.step(outside), ("sent", number, True))
            # The deed is done, but not noted yet.
            self.assertEqual((outside.in_force(), saga.text()), (IN_FORCE[number + 1], JOURNAL[:7 * number]))
            self.assertIs(saga.is_over, False)
            self.assertEqual(saga.step(outside), ("noted", number))
            self.assertEqual(saga.text(), JOURNAL[:7 * number + 7])
        self.assertIs(saga.is_over, True)

    def test_every_word_at_every_sending(self):
        for losses in itertools.product(WORDS, repeat=6):
            outside, saga = Outside([OTHER] + THERE, losses=losses), Saga(THERE, HERE, DEEDS)
            expected = []
            sendings = list(losses) + ["no"] * 4
            for number in range(4):
                word = None
                while word != "no":
                    word = sendings.pop(0)
                    expected.append(("sent", number, word == "no"))
                expected.append(("noted", number))
            self.assertEqual(run(saga, outside), expected)
            self.assertEqual((outside.done(), outside.in_force(), saga.text()), ([0, 1, 2, 3], IN_FORCE[4], JOURNAL))

    def test_steps_behind_the_end(self):
        outside, saga = Outside([OTHER] + THERE, losses=["no"] * 4 + ["back"]), Saga(THERE, HERE, DEEDS)
        run(saga, outside)
        for _ in range(3):
            self.assertEqual(saga.step(outside), ("over",))
            self.assertEqual((saga.text(), saga.is_over), (JOURNAL, True))
        self.assertEqual((outside.done(), outside.in_force()), ([0, 1, 2, 3], IN_FORCE[4]))
        # No word was taken behind the end.
        self.assertIs(outside.send(9, ("do", A)), False)

    def test_a_plan_without_deeds(self):
        outside, saga = Outside([A]), Saga([], [], [])
        self.assertEqual((saga.is_over, saga.text(), saga.step(outside)), (True, "", ("over",)))
        self.assertEqual((outside.in_force(), outside.done()), ([A], []))

    def test_two_calls_with_the_same_key_in_between(self):
        for deeds, between in (([("do", 0), ("undo", 0)], [A, D]), ([("undo", 0), ("do", 0)], [])):
            outside, saga = Outside([A]), Saga([A], [D], deeds)
            run(saga, outside, 2)
            self.assertEqual(outside.in_force(), between)
            run(saga, outside)
            self.assertEqual((outside.in_force(), outside.done()), ([D], [0, 1]))
        # Each call is changed into one with the key of the other.
        there, here = [A, B], [(((), 1), "pay", (9,)), (((), 0), "pay", (4,))]
        outside, saga = Outside(there), Saga(there, here, [("change", 0, 0), ("change", 1, 1)])
        run(saga, outside, 2)
        self.assertEqual(outside.in_force(), [B, here[0]])
        run(saga, outside)
        self.assertEqual(outside.in_force(), [here[1], here[0]])

    def test_the_order_of_the_plan(self):
        for deeds in itertools.permutations(DEEDS):
            outside, saga = Outside([OTHER] + THERE, losses=["back", "there"] * 3), Saga(THERE, HERE, list(deeds))
            run(saga, outside)
            self.assertEqual((outside.done(), outside.in_force()), ([0, 1, 2, 3], IN_FORCE[4]))

    def test_nothing_is_modified_or_shared(self):
        there, here, deeds = list(THERE), list(HERE), list(DEEDS)
        outside, saga = Outside([OTHER] + THERE), Saga(there, here, deeds)
        run(saga, outside, 3)
        self.assertEqual((there, here, deeds), (THERE, HERE, DEEDS))
        for rows in (there, here, deeds):
            rows.clear()
        run(saga, outside)
        self.assertEqual((outside.in_force(), saga.text()), (IN_FORCE[4], JOURNAL))

    def test_the_text_is_passed_by_name(self):
        with self.assertRaises(TypeError):
            Saga(THERE, HERE, DEEDS, "")


class JournalTests(unittest.TestCase):
    def test_complete_lines_are_taken(self):
        for end in range(len(JOURNAL) + 1):
            saga = Saga(THERE, HERE, DEEDS, text=JOURNAL[:end])
            noted = JOURNAL[:end].count("\n")
            self.assertEqual(saga.text(), JOURNAL[:7 * noted])
            self.assertIs(saga.is_over, noted == 4)
            outside = Outside([OTHER] + THERE)
            for number in range(noted):
                outside.send(number, SENT[number])
            steps = [(word, number) for number in range(noted, 4) for word in ("sent", "noted")]
            self.assertEqual([step[:2] for step in run(saga, outside)], steps)
            self.assertEqual((outside.done(), outside.in_force(), saga.text()), ([0, 1, 2, 3], IN_FORCE[4], JOURNAL))

    def test_what_stands_behind_the_last_newline_does_not_count(self):
        for rest in ("x", "done 7", "done", " ", "done 1 ", "\r"):
            self.assertEqual(Saga(THERE, HERE, DEEDS, text=rest).text(), "")
            self.assertEqual(Saga(THERE, HERE, DEEDS, text="done 0\n" + rest).text(), "done 0\n")
            self.assertEqual(Saga(THERE, HERE, DEEDS, text=JOURNAL + rest).text(), JOURNAL)

    def test_no_answers_are_known(self):
        outside, saga = Outside([OTHER] + THERE), Saga(THERE, HERE, DEEDS)
        self.assertEqual(saga.step(outside), ("sent", 0, True))
        again = Saga(THERE, HERE, DEEDS, text=saga.text())
        self.assertEqual(again.step(outside), ("sent", 0, True))
        self.assertEqual(again.step(outside), ("noted", 0))
        self.assertEqual(outside.done(), [0])

    def test_texts_that_are_refused(self):
        for text in ("\n", "done\n", "done 1\n", "done 0\n\n", "done 0\ndone 0\n", "done 0\ndone 2\n", "done 1\ndone 0\n",
                     " done 0\n", "done 0 \n", "done  0\n", "done 00\n", "done -0\n", "done +0\n", "Done 0\n", "DONE 0\n",
                     "undone 0\n", "done 0\r\n", "done 0\rdone 1\n", "done a\n", "sent 0\n", "0\n", "done 0\nx\n",
                     "done 0\nx\ndone 1\n", JOURNAL + "done 4\n", JOURNAL + "\n", JOURNAL + JOURNAL, JOURNAL + "done 3\n"):
            self.assertTrue(is_refused(text), repr(text))
            self.assertTrue(is_refused(text + "done"), repr(text))
        self.assertTrue(is_refused("done 0\n", []))
        self.assertFalse(is_refused("done 0", []))
        self.assertFalse(is_refused("", []))

    def test_numbers_of_several_digits(self):
        here = [(((), n), "pay", (n,)) for n in range(12)]
        deeds = [("do", n) for n in range(12)]
        outside, saga = Outside([]), Saga([], here, deeds)
        run(saga, outside)
        text = "".join([f"done {n}\n" for n in range(12)])
        self.assertEqual((saga.text(), outside.done()), (text, list(range(12))))
        for end in range(len(text) + 1):
            self.assertEqual(Saga([], here, deeds, text=text[:end]).text().count("\n"), text[:end].count("\n"))
        with self.assertRaises(InvalidJournal):
            Saga([], here, deeds, text=text.replace("done 9\ndone 10\n", "done 10\ndone 9\n"))


class FactTests(unittest.TestCase):
    def carry_out(self, dice, there, here, deeds, outside):
        """Carry out a plan with stops: a part of the journal stays, which may be cut at any character."""
        text = ""
        for _ in range(dice.randint(0, 6)):
            saga = Saga(there, here, deeds, text=text)
            run(saga, outside, dice.randint(0, 9))
            text = saga.text()[:dice.randint(0, len(saga.text()))]
        saga = Saga(there, here, deeds, text=text)
        run(saga, outside)
        self.assertTrue(saga.is_over)
        self.assertEqual(saga.text(), "".join([f"done {n}\n" for n in range(len(deeds))]))

    def test_the_journal_cut_at_every_character(self):
        # Each of three sagas does some steps, and leaves a journal that is cut at every character.
        for losses in ((), ("back",) * 5, ("there", "back", "no") * 3):
            for first, second in itertools.product(range(9), repeat=2):
                for end in range(7 * (first // 2) + 1):
                    self.cut_twice(losses, first, second, end)

    def cut_twice(self, losses, first, second, end):
        outside = Outside([OTHER] + THERE, losses=losses)
        saga = Saga(THERE, HERE, DEEDS)
        run(saga, outside, first)
        saga = Saga(THERE, HERE, DEEDS, text=saga.text()[:end])
        run(saga, outside, second)
        self.assertEqual(outside.done(), list(range(len(outside.done()))))
        self.assertEqual(outside.in_force(), IN_FORCE[len(outside.done())])
        saga = Saga(THERE, HERE, DEEDS, text=saga.text()[:-3])
        run(saga, outside)
        self.assertEqual((outside.done(), outside.in_force(), saga.text()), ([0, 1, 2, 3], IN_FORCE[4], JOURNAL))

    def test_any_plans_losses_and_stops(self):
        dice = random.Random(11)
        prices = Prices({"pay": (2, 2, (1, 1)), "ring": (1, 1, None)})
        for _ in range(300):
            both = [[(((), n), dice.choice(("pay", "ring")), (dice.randint(0, 3),)) for n in range(8) if dice.random() < 0.6]
                    for _ in range(2)]
            same, there, here = difference(*both)
            deeds, _ = plan(there, here, prices)
            dice.shuffle(deeds)
            kept = frozen([there, here, deeds])
            outside = Outside(both[0] + [OTHER], losses=[dice.choice(WORDS) for _ in range(dice.randint(0, 30))])
            self.carry_out(dice, there, here, deeds, outside)
            self.assertEqual(outside.done(), list(range(len(deeds))))
            self.assertEqual(outside.in_force(), sorted(both[1] + [OTHER]))
            self.assertEqual([there, here, deeds], kept)

    def test_calls_of_histories(self):
        dice = random.Random(13)
        found = 0
        for program, events in histories(40, 20):
            states = states_of(program, events)
            past, now = states[-1].gone, [(key, effect, tuple([n + 1 for n in arguments]))
                                          for key, effect, arguments in calls_since(states[len(states) // 2], states[-1])]
            same, there, here = difference(past[:12], now[:12])
            prices = Prices({effect: (3, 2, (1, 1)) for effect, _ in program.effects})
            deeds, _ = plan(there, here, prices)
            found += len(deeds)
            outside = Outside(past[:12], losses=["back", "there", "no"] * 4)
            self.carry_out(dice, there, here, deeds, outside)
            self.assertEqual((outside.done(), outside.in_force()), (list(range(len(deeds))), sorted(now[:12])))
        self.assertGreater(found, 20)


if __name__ == "__main__":
    unittest.main()
