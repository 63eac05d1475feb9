import unittest

from retroact.errors import ImpossibleEvent, InvalidLine
from retroact.history import History
from retroact.journal import read_event, read_journal, replay, write_event, write_journal
from retroact.machine import same_state
from retroact.names import KEY_WORDS
from retroact.program import Actor, Program

from tests.helpers import frozen, num, var
from tests.samples import histories

LONG = "abcdefghijkl"
PAIRS = [
    (("input", (), "add", ()), "input main add"),
    (("input", (), "add", (3,)), "input main add 3"),
    (("input", (0, 2), "add", (3, -1)), "input 0.2 add 3 -1"),
    (("input", (0,), "main", (0,)), "input 0 main 0"),
    (("input", (10, 0, 205), "x", (1, 2, 3, 4)), "input 10.0.205 x 1 2 3 4"),
    (("input", (), LONG, (1000000000, -1000000000)), "input main abcdefghijkl 1000000000 -1000000000"),
    (("input", (), "input", (9999999999, -9999999999)), "input main input 9999999999 -9999999999"),
    (("input", (-1, 9999999999), "add", ()), "input -1.9999999999 add"),
    (("input", (), "add", (1, 2, 3, 4, 5)), "input main add 1 2 3 4 5"),
    (("deliver", 0), "deliver 0"),
    (("deliver", 17), "deliver 17"),
    (("deliver", -1), "deliver -1"),
    (("answer", 0, -5), "answer 0 -5"),
    (("answer", 12, 0), "answer 12 0"),
    (("answer", -3, 1234567890), "answer -3 1234567890"),
]
# In the place of N stands each word that is no number; the word at a place must be one.
PLACES = ["deliver N", "answer N 1", "answer 1 N", "input main add N", "input main add 1 N 2", "input N add", "input 0.N add",
          "input N.0 add"]
NO_NUMBERS = ["", "-", "--1", "+1", "-0", "00", "01", "-01", "007", "12345678901", "-12345678901", "00000000001", "1a", "a",
              "1-", "1_0", "0x1", "1,", ".", "1.", "..", "\u0661", "\u00b2", "1\t", "\t1", "1\n", "1\r"]
WRONG = [
    "", " ", "input", "deliver", "answer", "input main", "answer 0", "deliver 0 1", "answer 0 1 2", "deliver add",
    "inputs main add", "Input main add", "take 0", "0", "deliver0", "event deliver 0",
    "input add", "input main 3", "input main add add", "input main add 3 add", "input main.0 add", "input 0.main add",
    "input Main add", "input  add", "input main abcdefghijklm", "input main Add", "input main a1", "input main a_b",
    "input main a-b", "input main \u00e9", "input main add\u00e9", "input main ", "input main  3",
    " deliver 0", "deliver 0 ", "deliver  0", "deliver\t0", "deliver 0\n", "deliver 0\r", "\ndeliver 0", "deliver\n0",
    "answer  0 1", "answer 0  1", "answer 0 1 ", " answer 0 1", "input  main add", "input main  add", "input main add ",
    "input main add  3", " input main add", "input main add 3 ", "input main add 3\n", "input main add 3#",
]
ADD = ("add", ["x"], [("set", "n", ("plus", var("n"), var("x")))])
PROGRAM = Program([], [Actor("main", [], [("n", num(4))], [ADD])])


def wrong_number(call, *arguments):
    """Return the number of the InvalidLine that a call raises, or None."""
    try:
        call(*arguments)
    except InvalidLine as error:
        return error.number
    return None


class EventTests(unittest.TestCase):
    def test_each_form_there_and_back(self):
        for event, line in PAIRS:
            self.assertEqual(write_event(event), line)
            self.assertEqual(read_event(line), event)

    def test_numbers_that_are_not_written_as_told(self):
        for place in PLACES:
            for word in NO_NUMBERS:
                if "." not in place and "input N" not in place or "." not in word:
                    self.assertEqual(wrong_number(read_event, place.replace("N", word)), 0, (place, word))

    def test_paths(self):
        for word in (".", "0.", ".0", "0..1", "main.", "main.main", "0 1", "0,1", "-", "-0", "00", "0.00", "0.12345678901"):
            self.assertEqual(wrong_number(read_event, f"input {word} add"), 0, word)

    def test_wrong_lines(self):
        for line in WRONG:
            self.assertEqual(wrong_number(read_event, line), 0, line)

    def test_messages_are_names(self):
        for word in KEY_WORDS:
            self.assertEqual(wrong_number(read_event, f"input main {word}"), 0, word)
        self.assertEqual(read_event("input main a"), ("input", (), "a", ()))


class JournalTests(unittest.TestCase):
    def test_there_and_back(self):
        events = [event for event, _ in PAIRS]
        kept = frozen(events)
        text = write_journal(events)
        self.assertEqual(text, "".join([line + "\n" for _, line in PAIRS]))
        self.assertEqual(events, kept)
        self.assertEqual(read_journal(text), events)
        self.assertEqual((write_journal([]), read_journal("")), ("", []))

    def test_cut_at_every_character(self):
        events = [event for event, _ in PAIRS]
        text = write_journal(events)
        for end in range(len(text) + 1):
            complete = text[:end].count("\n")
            self.assertEqual(read_journal(text[:end]), events[:complete])

    def test_what_stands_behind_the_last_newline_does_not_count(self):
        self.assertEqual(read_journal("deliver 0\n? nothing"), [("deliver", 0)])
        self.assertEqual(read_journal("? nothing"), [])
        self.assertEqual(read_journal("deliver 0"), [])

    def test_wrong_lines_are_numbered(self):
        lines = ["deliver 0", "answer 0 1", "input main add"]
        for line in WRONG:
            if "\n" not in line:
                for at in range(4):
                    text = "".join([text + "\n" for text in lines[:at] + [line] + lines[at:] + ["?"]])
                    self.assertEqual(wrong_number(read_journal, text), at + 1, line)
                    self.assertEqual(wrong_number(replay, PROGRAM, text), at + 1, line)
        self.assertEqual(wrong_number(read_journal, "\n"), 1)
        self.assertEqual(wrong_number(read_journal, "deliver 0\n\ndeliver 0\n"), 2)
        self.assertEqual(wrong_number(read_journal, "deliver 0\r\ndeliver 0\r\n"), 1)

    def test_only_newlines_end_lines(self):
        for mark in ("\r", "\x0b", "\x0c", "\x1c", "\x85", "\u2028"):
            self.assertEqual(wrong_number(read_journal, f"deliver 0{mark}deliver 0\n"), 1)


class ReplayTests(unittest.TestCase):
    def test_histories_of_journals(self):
        for program, events in histories(30, 15):
            history = History(program)
            for event in events:
                history.record(event)
            again = replay(program, write_journal(events))
            self.assertIs(again.program, program)
            self.assertEqual((again.events(), again.told()), (history.events(), history.told()))
            self.assertTrue(same_state(again.state_at(len(events)), history.state_at(len(events))))

    def test_a_journal_that_was_cut_off(self):
        history = replay(PROGRAM, "input main add 3\ndeliver 0\ndeliver 5")
        self.assertEqual(history.events(), [("input", (), "add", (3,)), ("deliver", 0)])
        self.assertEqual(history.state_at(2).beings[()].states, {"n": 7})
        self.assertEqual(replay(PROGRAM, "").events(), [])

    def test_events_that_are_not_possible(self):
        with self.assertRaises(ImpossibleEvent) as caught:
            replay(PROGRAM, "input main add 3\ndeliver 1\ndeliver 7\n")
        self.assertEqual(caught.exception.event, ("deliver", 1))
        with self.assertRaises(ImpossibleEvent) as caught:
            replay(PROGRAM, "input main add 9999999999\n")
        self.assertEqual(caught.exception.event, ("input", (), "add", (9999999999,)))

    def test_wrong_lines_come_before_impossible_events(self):
        self.assertEqual(wrong_number(replay, PROGRAM, "deliver 7\ninput main add 3\ndeliver -0\n"), 3)


if __name__ == "__main__":
    unittest.main()
