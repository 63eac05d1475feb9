import unittest
from unittest import mock

from retroact.branches import branch
from retroact.desk import Desk, answers_of
from retroact.errors import InvalidLine
from retroact.history import changes
from retroact.journal import write_event
from retroact.machine import apply, first_state, inputs_of, is_possible, same_state
from retroact.patches import Patch
from retroact.program import same_program
from retroact.reader import read_program
from retroact.report import branch_report, by_names, changes_report, state_report, told_line
from retroact.writer import write_program

from tests.helpers import attributes, num
from tests.samples import Maker, histories

SHOP = ["effect pay 1", "actor shop", "state n = 4", "on add(x)", "set n = n + x", "call pay(n) then paid", "end", "on paid(y)", "stop", "end",
        "on grow", "spawn part as a", "send child(a) go(1)", "end", "end", "actor part", "on go(k)", "if k > 5", "fail", "end", "end", "end"]
WORDS = ("text", "drop", "load", "event", "inputs", "state", "changes", "journal", "back", "rebase", "accept")


def with_draft(lines, *others):
    """Return lines that make a draft, and the others."""
    return [f"text {line}" for line in lines] + list(others)


def loaded(*lines, text=SHOP):
    """Return a desk that has loaded a program and obeyed lines, none of which it refused."""
    desk = Desk()
    for line in with_draft(text, "load", *lines):
        answer = desk.obey(line)
        assert not "".join(answer).startswith("refused"), (line, answer)
    return desk


EVENTS = ("event input main add 3", "event deliver 0", "event input main grow", "event deliver 0")


def everything(desk):
    """Return all that a desk shows and keeps, besides its draft."""
    history = desk.history()
    kept = None if history is None else [attributes(history.program), history.events(), history.told()]
    return [kept, desk.lines()]


class DeskTestCase(unittest.TestCase):
    def refused(self, desk, line, reason):
        """See that a line is refused with a reason, and changes nothing of what is shown and kept."""
        before = everything(desk)
        self.assertEqual(desk.obey(line), [f"refused {reason}"])
        self.assertEqual(everything(desk), before)


class LineTests(DeskTestCase):
    def test_lengths(self):
        desk = Desk()
        self.assertEqual(desk.obey("text " + "x" * 195), ["lines 1"])
        for line in ("text " + "x" * 196, "x" * 201, " " * 201, "text" + " " * 300):
            with self.assertRaises(InvalidLine) as caught:
                desk.obey(line)
            self.assertEqual(caught.exception.number, 0)
        self.assertEqual(desk.obey("x" * 200), ["refused word"])
        self.assertEqual((desk.obey("text y"), desk.lines()), (["lines 2"], ["text " + "x" * 195, "text y"]))

    def test_characters(self):
        desk = Desk()
        self.assertEqual(desk.obey("text " + "".join([chr(code) for code in range(32, 127)])), ["lines 1"])
        for character in ("\t", "\n", "\r", "\x00", "\x1f", "\x7f", "\x80", "\xe9", "\u0660", "\u2003"):
            for line in (character, "text a" + character, character + "drop", "drop" + character, "state " + character):
                with self.assertRaises(InvalidLine) as caught:
                    desk.obey(line)
                self.assertEqual(caught.exception.number, 0)
        self.assertEqual(desk.lines(), ["text " + "".join([chr(code) for code in range(32, 127)])])

    def test_first_words(self):
        for desk in (Desk(), loaded()):
            for line in ("", " ", "   ", "loads", "Load", "LOAD", " load", "texts a", "textual", "te xt", "refused word", "state0", "event,", "1"):
                self.refused(desk, line, "word")

    def test_words_that_are_empty(self):
        desk = loaded(*EVENTS)
        for line in ("load ", "drop  ", "state  1", "state 1 ", "changes 0  1", "event  deliver 0", "event deliver  0", "event deliver 0 ", "journal ",
                     "back  1", "rebase 0 ", "accept  0", "inputs  "):
            self.refused(desk, line, "word")
        # An empty word comes before a wrong number of words.
        self.refused(desk, "state 1 2  3", "word")
        self.refused(desk, "state ", "word")

    def test_numbers_of_words(self):
        for desk in (Desk(), loaded(*EVENTS)):
            for line in ("drop 1", "load 1", "load it now", "event", "event deliver", "event input main add 1 2 3 4 5", "inputs 1", "inputs main", "state",
                         "state 1 2", "changes", "changes 1", "changes 1 2 3", "journal 0", "back", "back 1 2", "rebase", "rebase 1 2", "accept",
                         "accept 0 0"):
                self.refused(desk, line, "count")

    def test_the_most_words_of_an_event(self):
        text = ["actor main", "on go(a, b, c, d)", "end", "end"]
        self.assertEqual(loaded(text=text).obey("event input main go 1 2 3 4"), ["input main go"])
        self.refused(loaded(text=text), "event input main go 1 2 3 4 5", "count")

    def test_which_reason_comes_first(self):
        desk = Desk()
        self.refused(desk, "nothing  here", "word")
        self.refused(desk, "state x y", "count")
        self.refused(desk, "state x", "none")
        self.refused(desk, "event nothing like it", "none")
        self.refused(desk, "rebase x", "none")

    def test_without_a_program(self):
        desk = Desk()
        for draft in ([], SHOP):
            for line in with_draft(draft):
                desk.obey(line)
            for line in ("event deliver 0", "event input main add 1", "event no event", "inputs", "state 0", "state x", "changes 0 0", "changes x y",
                         "journal", "back 0", "back x", "rebase 0", "rebase x", "accept 0", "accept x"):
                self.refused(desk, line, "none")
            self.assertIsNone(desk.history())


class DraftTests(DeskTestCase):
    def test_lines_of_a_draft(self):
        desk = Desk()
        self.assertEqual([desk.obey(line) for line in ("text a", "text", "text ", "text  b  c ", "text text", "text drop")],
                         [[f"lines {k}"] for k in range(1, 7)])
        self.assertEqual(desk.obey("drop"), ["dropped"])
        self.assertEqual(desk.obey("text a"), ["lines 1"])
        self.assertEqual((desk.obey("drop"), desk.obey("drop")), (["dropped"], ["dropped"]))

    def test_the_rest_as_it_is(self):
        # A rest may be empty and begin with spaces: columns and lines of errors tell where it stands.
        self.assertEqual(answers_of(["text", "text ", "text     actor ?", "load"])[-1], ["refused text 3 11 character"])
        self.assertEqual(answers_of(["text actor main", "text   on go  ", "text     stop ", "text", "text   end", "text end", "load"])[-1], ["loaded 1"])

    def test_200_lines(self):
        desk = Desk()
        for k in range(200):
            self.assertEqual(desk.obey("text"), [f"lines {k + 1}"])
        self.refused(desk, "text", "full")
        self.refused(desk, "text   more", "full")
        self.assertEqual((desk.obey("drop"), desk.obey("text")), (["dropped"], ["lines 1"]))
        self.assertEqual(len(desk.lines()), 202)

    def test_load(self):
        desk = Desk()
        for line in with_draft(SHOP):
            desk.obey(line)
        self.assertEqual(desk.obey("load"), ["loaded 2"])
        self.assertTrue(same_program(desk.history().program, read_program("\n".join(SHOP))))
        self.assertEqual(desk.history().events(), [])
        # The draft is empty.
        self.assertEqual(desk.obey("text end"), ["lines 1"])

    def test_load_begins_anew(self):
        desk = loaded(*EVENTS)
        for line in with_draft(["actor other", "end"]):
            desk.obey(line)
        self.assertEqual((desk.obey("load"), desk.obey("state 0"), desk.obey("journal")), (["loaded 1"], ["main other on"], []))
        self.refused(desk, "state 1", "number")

    def test_texts_with_errors(self):
        for draft, reason in ((["actor main", "  on go", "    set n = y", "  end", "end"], "text 3 13 unknown"), ([], "text 1 1 end"),
                              (["actor main"], "text 2 1 end"), (["actor main", "end", "actor main", "end"], "text 3 7 twice"),
                              (["effect pay 5"], "text 1 1 limit"), (["actor abcdefghijklm"], "text 1 7 word")):
            for desk in (Desk(), loaded(*EVENTS)):
                for line in with_draft(draft):
                    desk.obey(line)
                self.refused(desk, "load", reason)
                # The draft has stayed.
                self.refused(desk, "load", reason)
                self.assertEqual(desk.obey("text"), [f"lines {len(draft) + 1}"])

    def test_large_texts(self):
        filled = ["actor main", "end"] + [" " * 195] * 101
        spaces = 20000 - sum([len(line) + 1 for line in filled])
        for more, answer in ((spaces - 1, ["loaded 1"]), (spaces, ["refused large"])):
            desk = Desk()
            for line in with_draft(filled + [" " * more]):
                desk.obey(line)
            if answer == ["loaded 1"]:
                self.assertEqual(desk.obey("load"), answer)
            else:
                self.refused(desk, "load", "large")
                self.assertEqual(desk.obey("text"), [f"lines {len(filled) + 2}"])


class EventTests(DeskTestCase):
    def test_what_events_tell(self):
        desk = loaded()
        lines = EVENTS + ("event answer 0 -1", "event deliver 1", "event input 0 go 7", "event deliver 0", "event deliver 0")
        self.assertEqual([desk.obey(line) for line in lines], [
            ["input main add"], ["handled main add done"], ["input main grow"], ["handled main grow done"], ["answered main 0"],
            ["handled main paid stopped"], ["input 0 go"], ["handled 0 go done"], ["handled 0 go failed fail"]])
        self.assertEqual(desk.obey("journal"), [line[len("event "):] for line in lines])
        desk = loaded("event input main grow", "event deliver 0", "event input 0 go 9", "event deliver 1")
        self.assertEqual(desk.obey("event deliver 0"), ["dropped 0 go"])

    def test_lines_that_are_no_events(self):
        desk = loaded(*EVENTS)
        for line in ("deliver x", "deliver 00", "deliver -0", "deliver 1 2", "deliver 12345678901", "answer 0", "answer 0 1 2", "answer 0 +1", "input main",
                     "input main Add 3", "input main add x", "input main add 01", "input 0. add 3", "input root add 3", "input main state 3", "inputs main",
                     "input main add 3.0", "Deliver 0", "handled main add"):
            self.refused(desk, "event " + line, "event")

    def test_events_that_are_not_possible(self):
        desk = loaded(*EVENTS)
        for line in ("deliver 1", "deliver -1", "answer 1 5", "answer -1 5", "answer 0 1000000001", "input main add", "input main add 1 2", "input main sub 1",
                     "input 1 go 1", "input 0.0 go 1", "input main add 1000000001"):
            self.refused(desk, "event " + line, "impossible")

    def test_500_events(self):
        desk = loaded(text=["actor main", "on go", "end", "end"])
        for _ in range(500):
            self.assertEqual(desk.obey("event input main go"), ["input main go"])
        self.refused(desk, "event input main go", "full")
        self.refused(desk, "event deliver 0", "full")
        # Reasons that stand ahead of it in the table come first.
        self.refused(desk, "event deliver 500", "impossible")
        self.refused(desk, "event deliver x", "event")
        self.assertEqual(desk.obey("state 500")[-1], "waits main go")
        self.assertEqual(desk.obey("back 499"), ["at 499"])
        self.assertEqual(desk.obey("event deliver 7"), ["handled main go done"])
        self.refused(desk, "event deliver 0", "full")

    def test_inputs(self):
        self.assertEqual(loaded().obey("inputs"), ["main add 1", "main paid 1", "main grow 0"])
        self.assertEqual(loaded(*EVENTS).obey("inputs"), ["main add 1", "main paid 1", "main grow 0", "0 go 1"])
        self.assertEqual(loaded("event input main paid 1", "event deliver 0").obey("inputs"), [])


class MomentTests(DeskTestCase):
    def test_states(self):
        desk = loaded(*EVENTS)
        self.assertEqual(desk.obey("state 0"), ["main shop on n=4"])
        self.assertEqual(desk.obey("state 1"), ["main shop on n=4", "waits main add 3"])
        self.assertEqual(desk.obey("state 4"), ["main shop on n=7", "0 part on", "waits 0 go 1", "calls main 0 pay 7"])

    def test_changes(self):
        desk = loaded(*EVENTS)
        self.assertEqual(desk.obey("changes 0 2"), ["state main n 4 7", "calls main 0"])
        self.assertEqual(desk.obey("changes 4 0"), ["state main n 7 4", "missing 0", "came sent main 0", "closed main 0"])
        self.assertEqual(desk.obey("changes 3 3"), [])

    def test_moments_that_are_none(self):
        desk = loaded(*EVENTS)
        for line in with_draft(SHOP):
            desk.obey(line)
        for word in ("5", "-1", "-0", "00", "01", "+1", "x", "1.0", "1x", "99999999999999999999", "0" * 20, "04", "main", "_1", "4_"):
            for line in ("state {}", "changes {} 0", "changes 0 {}", "changes {} {}", "back {}", "rebase {}", "accept {}"):
                self.refused(desk, line.replace("{}", word), "number")
        for word in ("0", "4"):
            self.assertNotEqual(desk.obey("state " + word)[0][:7], "refused")
            self.assertNotEqual(desk.obey("rebase " + word)[0][:7], "refused")

    def test_the_moment_comes_before_the_draft(self):
        desk = loaded(*EVENTS)
        desk.obey("text nothing")
        self.refused(desk, "rebase 5", "number")
        self.refused(desk, "rebase 4", "text 1 1 line")
        self.refused(desk, "accept 5", "number")
        self.refused(desk, "accept 4", "text 1 1 line")

    def test_journal(self):
        self.assertEqual(loaded().obey("journal"), [])
        self.assertEqual(loaded(*EVENTS).obey("journal"), ["input main add 3", "deliver 0", "input main grow", "deliver 0"])

    def test_back(self):
        desk = loaded(*EVENTS)
        self.assertEqual(desk.obey("back 4"), ["at 4"])
        self.assertEqual(len(desk.history().events()), 4)
        self.assertEqual((desk.obey("back 1"), desk.obey("journal")), (["at 1"], ["input main add 3"]))
        self.refused(desk, "state 2", "number")
        self.assertEqual(desk.obey("event deliver 0"), ["handled main add done"])
        self.assertEqual((desk.obey("back 0"), desk.obey("journal"), desk.obey("state 0")), (["at 0"], [], ["main shop on n=4"]))

    def test_back_leaves_the_draft(self):
        desk = loaded(*EVENTS)
        desk.obey("text a")
        desk.obey("back 0")
        self.assertEqual(desk.obey("text b"), ["lines 2"])


def drafted(lines, *others):
    """Return a desk with a history and with a draft of other lines."""
    desk = loaded(*others)
    for line in with_draft(lines):
        desk.obey(line)
    return desk


TWICE = [line.replace("n + x", "n + x + x") for line in SHOP]


class RebaseTests(DeskTestCase):
    def test_the_report(self):
        desk = drafted(TWICE, *EVENTS)
        answer = ["fits input main add 3", "fits deliver 0", "fits input main grow", "fits deliver 0", "undo main 0 pay 7", "do main 0 pay 10", "cost 1"]
        before = everything(desk)
        self.assertEqual(desk.obey("rebase 0"), answer)
        # Nothing changes, and the draft stays.
        self.assertEqual(everything(desk), [before[0], before[1] + ["rebase 0"]])
        self.assertEqual(desk.obey("rebase 0"), answer)
        self.assertEqual(desk.obey("rebase 2"), ["fits input main grow", "fits deliver 0", "cost 0"])
        self.assertEqual(desk.obey("text"), [f"lines {len(SHOP) + 1}"])
        self.assertEqual(desk.obey("state 2"), ["main shop on n=7", "calls main 0 pay 7"])

    def test_the_text_of_the_program_itself(self):
        desk = drafted(SHOP, *EVENTS)
        self.assertEqual(desk.obey("rebase 4"), ["cost 0"])
        self.assertEqual(desk.obey("rebase 0")[-1], "cost 0")
        for program, events in histories(60, 12):
            text = write_program(program).split("\n")
            desk = loaded(*[f"event {write_event(event)}" for event in events], text=text)
            for line in with_draft(text):
                desk.obey(line)
            self.assertEqual(desk.obey(f"rebase {len(events)}"), ["cost 0"])
            self.assertEqual([line for line in desk.obey("rebase 0") if line.startswith("misfit")], [])
            self.assertEqual(desk.obey("rebase 0")[-1], "cost 0")

    def test_misfits(self):
        lines = EVENTS + ("event deliver 0", "event answer 0 8", "event deliver 0")
        for change, answer in (
                (("add(x)", "sum(x)"), ["misfit message", "misfit waiting", "fits input main grow", "fits deliver 0", "fits deliver 0", "misfit call",
                                        "misfit waiting", "undo main 0 pay 7", "cost 2"]),
                (("set n = n + x", "stop"), ["fits input main add 3", "fits deliver 0", "misfit mode", "misfit waiting", "misfit waiting", "misfit call",
                                             "misfit waiting", "undo main 0 pay 7", "cost 2"]),
                (("pay(n)", "pay(n - 7)"), ["fits input main add 3", "fits deliver 0", "fits input main grow", "fits deliver 0", "fits deliver 0",
                                            "misfit call", "misfit waiting", "undo main 0 pay 7", "do main 0 pay 0", "cost 1"])):
            desk = drafted([line.replace(*change) for line in SHOP], *lines)
            self.assertEqual(desk.obey("rebase 0"), answer)
            self.assertEqual(desk.obey("accept 0"), answer)
            # The events that fit are left, as they were fitted.
            self.assertEqual(desk.obey("journal"), [line[len("fits "):] for line in answer if line.startswith("fits")])

    def test_an_actor_that_is_not_there(self):
        desk = drafted([line.replace("spawn part as a", "set a = 0") for line in SHOP], *EVENTS, "event input 0 go 3")
        self.assertEqual(desk.obey("rebase 0")[2:], ["fits input main grow", "fits deliver 0", "misfit actor", "cost 0"])
        # At a later moment the actor is there, as it was; but not in a history of the new program.
        self.assertEqual(desk.obey("rebase 4"), ["fits input 0 go 3", "cost 0"])
        self.refused(desk, "accept 4", "impossible")
        self.assertEqual(desk.obey("accept 0")[4:], ["misfit actor", "cost 0"])

    def test_more_than_12_calls(self):
        for many, cost in ((12, "cost 12"), (13, "cost large")):
            lines = [line for k in range(many) for line in (f"event input main add {k}", "event deliver 0")]
            desk = drafted([line.replace("pay(n)", "pay(n + 1)") for line in SHOP], *lines)
            answer = desk.obey("rebase 0")
            self.assertEqual((len(answer), answer[-1]), (2 * many + 2 * many + 1, cost))
            self.assertEqual(desk.obey("accept 0"), answer)

    def test_texts_with_errors(self):
        for order in ("rebase 0", "accept 0"):
            self.refused(drafted([]), order, "text 1 1 end")
            self.refused(drafted(["actor main", "on"]), order, "text 2 3 expected")
            self.refused(drafted(["actor main", "end"] + [" " * 195] * 110), order, "large")

    def test_conversions_with_a_fault(self):
        """The patch by names has no expression that can have one: so another patch is put in its place."""
        fault = [("n", ("over", num(1), num(0)))]
        for kinds in ({"shop": ("shop", fault, []), "part": None}, {"shop": ("shop", [], []), "part": None}, {}):
            with mock.patch("retroact.orders.by_names", lambda old, new: Patch(new, kinds, [])):
                for order in ("rebase 0", "rebase 4", "accept 0"):
                    self.refused(drafted(SHOP, *EVENTS), order, "patch")
                self.refused(drafted(SHOP, *EVENTS), "rebase 5", "number")
                self.refused(drafted(["actor"], *EVENTS), "accept 4", "text 1 6 expected")

    def test_conversions_without_fault(self):
        # The patch by names has nothing but names and 0: what the program makes of its own states does not matter.
        text = [line.replace("state n = 4", "state n = 4 / 0") for line in SHOP]
        self.assertEqual(drafted(text, *EVENTS).obey("rebase 4"), ["cost 0"])


class AcceptTests(DeskTestCase):
    def test_the_history(self):
        desk = drafted(TWICE, *EVENTS)
        answer = desk.obey("rebase 0")
        self.assertEqual(desk.obey("accept 0"), answer)
        self.assertTrue(same_program(desk.history().program, read_program("\n".join(TWICE))))
        self.assertEqual(desk.obey("state 4"), ["main shop on n=10", "0 part on", "waits 0 go 1", "calls main 0 pay 10"])
        self.assertEqual(desk.obey("journal"), ["input main add 3", "deliver 0", "input main grow", "deliver 0"])
        # The draft is empty.
        self.assertEqual(desk.obey("text"), ["lines 1"])

    def test_from_the_first_state_on(self):
        """The first events are those of the old history, but the new program makes the states behind them, too."""
        desk = drafted(TWICE, *EVENTS)
        self.assertEqual(desk.obey("accept 2"), ["fits input main grow", "fits deliver 0", "cost 0"])
        self.assertEqual(desk.obey("state 2"), ["main shop on n=10", "calls main 0 pay 10"])

    def test_misfits_are_left_out(self):
        desk = drafted([line.replace("add(x)", "sum(x)") for line in SHOP], *EVENTS)
        self.assertEqual(desk.obey("accept 0")[:2], ["misfit message", "misfit waiting"])
        self.assertEqual(desk.obey("journal"), ["input main grow", "deliver 0"])
        self.assertEqual(desk.obey("state 2"), ["main shop on n=4", "0 part on", "waits 0 go 1"])

    def test_first_events_that_are_not_possible(self):
        text = [line.replace("add(x)", "sum(x)") for line in SHOP]
        desk = drafted(text, *EVENTS)
        self.refused(desk, "accept 1", "impossible")
        self.refused(desk, "accept 4", "impossible")
        self.assertEqual(desk.obey("rebase 4"), ["cost 0"])
        self.assertEqual(desk.obey("text"), [f"lines {len(text) + 1}"])

    def test_fitted_events_that_are_not_possible(self):
        # At the moment 2 a call is pending; from its first state on the new program has not made it.
        text = [line.replace("call pay(n) then paid", "set n = n") for line in SHOP]
        desk = drafted(text, *EVENTS[:2], "event answer 0 5")
        self.assertEqual(desk.obey("rebase 2"), ["fits answer 0 5", "cost 0"])
        self.refused(desk, "accept 2", "impossible")
        self.assertEqual(desk.obey("accept 0"), ["fits input main add 3", "fits deliver 0", "misfit call", "undo main 0 pay 7", "cost 2"])

    def test_impossible_comes_after_all_others(self):
        desk = drafted(["actor main"], *EVENTS)
        self.refused(desk, "accept 9", "number")
        self.refused(desk, "accept 4", "text 2 1 end")

    def test_what_follows(self):
        desk = drafted(TWICE, *EVENTS[:2])
        desk.obey("accept 2")
        self.assertEqual([desk.obey(line) for line in ("event answer 0 1", "event deliver 0", "event deliver 0")],
                         [["answered main 0"], ["handled main paid stopped"], ["refused impossible"]])
        self.assertEqual((desk.obey("back 0"), desk.obey("state 0")), (["at 0"], ["main shop on n=4"]))

    def test_a_new_main_kind(self):
        desk = drafted(["actor store", "state n = 9", "on add(x)", "set n = x", "end", "end"], *EVENTS[:2])
        self.assertEqual(desk.obey("accept 0"), ["fits input main add 3", "fits deliver 0", "undo main 0 pay 7", "cost 2"])
        self.assertEqual(desk.obey("state 2"), ["main store on n=3"])


class KeptTests(DeskTestCase):
    def test_lines(self):
        desk = Desk()
        lines = ["text actor main", "nothing", "text end", "state 0", "load", "state 0", "state 1", "inputs", "", "event deliver 0", "rebase 0", "drop", "drop 1"]
        for line in lines:
            desk.obey(line)
        self.assertEqual(desk.lines(), ["text actor main", "text end", "load", "state 0", "inputs", "drop"])
        desk.lines().clear()
        self.assertEqual(len(desk.lines()), 6)

    def test_answers_of(self):
        lines = with_draft(SHOP, "load", *EVENTS, "state 4", "event deliver 3", "nothing", "changes 0 4", "journal")
        desk = Desk()
        self.assertEqual(answers_of(lines), [desk.obey(line) for line in lines])
        self.assertEqual(answers_of([]), [])
        with self.assertRaises(InvalidLine):
            answers_of(["drop", "a\tb"])

    def test_answers_depend_on_the_lines_alone(self):
        """A desk that obeys the lines that another one has kept has the same history, draft and later answers."""
        for seed in range(40):
            lines = random_lines(seed)
            desk = Desk()
            answers = [desk.obey(line) for line in lines]
            self.assertEqual(answers_of(lines), answers)
            kept = [line for line, answer in zip(lines, answers) if not "".join(answer).startswith("refused")]
            self.assertEqual(desk.lines(), kept)
            other = Desk()
            self.assertEqual([other.obey(line) for line in kept], [answer for answer in answers if not "".join(answer).startswith("refused")])
            self.assertEqual(everything(other), everything(desk))
            for line in ("text", "journal", "rebase 0", "accept 0", "load", "state 0"):
                self.assertEqual(other.obey(line), desk.obey(line))

    def test_answers_are_new(self):
        desk = loaded(*EVENTS)
        for line in ("journal", "state 4", "inputs", "changes 0 4"):
            first = desk.obey(line)
            wanted = list(first)
            first.clear()
            self.assertEqual(desk.obey(line), wanted)

    def test_the_history_that_is_shown(self):
        desk = loaded(*EVENTS)
        history = desk.history()
        self.assertEqual(history.events(), [("input", (), "add", (3,)), ("deliver", 0), ("input", (), "grow", ()), ("deliver", 0)])
        self.assertEqual(state_report(history.program, history.state_at(2)), desk.obey("state 2"))
        # What somebody does with it is no line of the desk.
        history.record(("deliver", 0))
        history.events().clear()
        self.assertEqual(len(desk.obey("journal")), 4)

    def test_random_desks(self):
        """Each answer is what the table says, by the other modules."""
        words = set()
        for seed in range(60):
            self.follow(random_lines(seed), words)
        self.assertEqual(words, {"none", "event", "impossible", "number", "text", "count", "word", "full"})

    def follow(self, lines, words):
        desk, draft, program, events = Desk(), [], None, []
        for line in lines:
            answer = desk.obey(line)
            wanted, (draft, program, events) = plain_answer(line, draft, program, events)
            self.assertEqual(answer, wanted, line)
            if wanted and wanted[0].startswith("refused"):
                words.add(wanted[0].split(" ")[1])
            if program is not None:
                self.assertTrue(same_program(desk.history().program, program))
                self.assertEqual(desk.history().events(), events)


def random_lines(seed):
    """Return lines of random words, so that most of them are obeyed."""
    maker = Maker(seed)
    dice = maker.dice
    programs = [maker.program() for _ in range(3)]
    texts = [write_program(program).split("\n")[:-1] for program in programs]
    lines = ["state 0", "load"] if seed % 3 == 0 else []
    for text in dice.sample(texts, 2):
        lines += with_draft(text, "load") + random_events(programs[texts.index(text)], maker)
        lines += with_draft(dice.choice((text, texts[0], text[:-1])))
        lines += [f"{dice.choice(('rebase', 'accept'))} {dice.randint(0, 6)}", f"changes {dice.randint(0, 5)} {dice.randint(0, 9)}"]
        lines += dice.sample(["inputs", "journal", "back 2", "back 01", "state 3", "event deliver 0", "event answer 0 x", "event deliver 9", "load", "drop",
                              "changes 1", "state  1", "event input main go", "accept 1", "state 2", "journal"], 9)
    return lines


def random_events(program, maker):
    return [f"event {write_event(event)}" for event in maker.events(program, 9)]


def plain_answer(line, draft, program, events):
    """Return the answer to a line, and what is kept behind it, as the table tells it; errors of the draft are looked up by reading."""
    kept = (draft, program, events)
    words = line.split(" ")
    if words[0] == "text" and len(draft) == 200:
        return ["refused full"], kept
    if words[0] == "text":
        return [f"lines {len(draft) + 1}"], (draft + [line[5:]], program, events)
    if words[0] not in WORDS or "" in words:
        return ["refused word"], kept
    if line == "drop":
        return ["dropped"], ([], program, events)
    if line == "changes 1":
        return ["refused count"], kept
    if words[0] != "load" and program is None:
        return ["refused none"], kept
    if words[0] in ("state", "changes", "back", "rebase", "accept"):
        moments = [int(word) if word.isdigit() and (word == "0" or word[0] != "0") else -1 for word in words[1:]]
        if not all([0 <= moment <= len(events) for moment in moments]):
            return ["refused number"], kept
    if words[0] in ("load", "rebase", "accept"):
        try:
            new = read_program("".join([row + "\n" for row in draft]))
        except ValueError as error:
            return [f"refused text {error.line} {error.column} {error.reason}"], kept
        if words[0] == "load":
            return [f"loaded {len(new.actors)}"], ([], new, [])
        one = branch(program, events, moments[0], by_names(program, new))
        report = branch_report(program, events, one)
        later = events[:moments[0]] + [event for word, event in one.fits if word == "fits"]
        if words[0] == "rebase":
            return report, kept
        return (["refused impossible"], kept) if states(new, later) is None else (report, ([], new, later))
    past = states(program, events)
    if words[0] == "event":
        return plain_event(words[1:], past[-1], kept)
    answers = {"inputs": lambda: [" ".join(["main" if not path else ".".join(map(str, path)), message, str(many)])
                                  for path, message, many in inputs_of(program, past[-1])],
               "journal": lambda: [write_event(event) for event in events], "back": lambda: [f"at {words[1]}"],
               "state": lambda: state_report(program, past[moments[0]]),
               "changes": lambda: changes_report(past[moments[0]], past[moments[1]])}
    return answers[words[0]](), (draft, program, events[:moments[0]] if words[0] == "back" else events)


def plain_event(words, state, kept):
    draft, program, events = kept
    if words == ["answer", "0", "x"]:
        return ["refused event"], kept
    numbers = [int(word) for word in words[1:] if word.lstrip("-").isdigit()]
    if words[0] == "input":
        path = () if words[1] == "main" else tuple([int(word) for word in words[1].split(".")])
        event = ("input", path, words[2], tuple([int(word) for word in words[3:]]))
    else:
        event = (words[0], *numbers)
    if not is_possible(program, state, event):
        return ["refused impossible"], kept
    return [told_line(apply(program, state, event, len(events))[1])], (draft, program, events + [event])


def states(program, events):
    """Return the states at all moments, or None if an event is not possible."""
    found = [first_state(program)]
    for moment, event in enumerate(events):
        if not is_possible(program, found[-1], event):
            return None
        found.append(apply(program, found[-1], event, moment)[0])
    return found


class StateFactTests(DeskTestCase):
    def test_states_depend_on_the_program_and_the_events_alone(self):
        for program, events in histories(40, 10):
            text = write_program(program).split("\n")
            lines = [f"event {write_event(event)}" for event in events]
            desk = loaded(*lines, text=text)
            # Another way to the same events: going back, drafts and questions between them.
            other = loaded("text a", *lines, "back 0", "drop", *[row for line in lines for row in (line, "state 0", "journal")], text=text)
            past = states(program, events)
            for moment, state in enumerate(past):
                self.assertEqual(desk.obey(f"state {moment}"), state_report(program, state))
                self.assertEqual(other.obey(f"state {moment}"), state_report(program, state))
                self.assertTrue(same_state(desk.history().state_at(moment), state))
            self.assertEqual(changes(past[0], past[-1]), changes(desk.history().state_at(0), other.history().state_at(len(events))))


if __name__ == "__main__":
    unittest.main()
