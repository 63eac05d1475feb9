import unittest

from retroact.branches import branch
from retroact.differences import calls_since, difference
from retroact.history import states_of
from retroact.machine import Being, State
from retroact.patches import Patch, check_patch, same_patch
from retroact.plans import cost, plan
from retroact.prices import Prices
from retroact.program import Actor, Program
from retroact.reader import read_program
from retroact.report import branch_report, by_names, changes_report, state_report, told_line

from tests.helpers import attributes, frozen, num, var
from tests.samples import histories

TEXT = """effect pay 1
effect ring 0
actor shop
  state n = 4
  state low = 2
  on add(x)
    set n = n + x
    call pay(n) then paid
  end
  on grow(k)
    spawn part(k) as a
    send child(a) halt
    call ring
  end
  on paid(y)
    if y < 0
      fail
    end
    stop
  end
end
actor part(size)
  state share = 70 / size
  on halt
    stop
  end
end
"""
PROGRAM = read_program(TEXT)
EVENTS = [("input", (), "add", (-7,)), ("deliver", 0), ("input", (), "grow", (7,)), ("deliver", 0), ("input", (), "grow", (0,)),
          ("answer", 0, -5), ("deliver", 1), ("deliver", 0), ("deliver", 1)]
STATES = states_of(PROGRAM, EVENTS)


class ToldTests(unittest.TestCase):
    def test_lines(self):
        self.assertEqual(told_line(("input", (), "add")), "input main add")
        self.assertEqual(told_line(("input", (0, 12), "add")), "input 0.12 add")
        self.assertEqual(told_line(("handled", (), "add", "done", None)), "handled main add done")
        self.assertEqual(told_line(("handled", (3,), "add", "stopped", None)), "handled 3 add stopped")
        self.assertEqual(told_line(("handled", (), "add", "failed", "range")), "handled main add failed range")
        self.assertEqual(told_line(("handled", (), "add", "failed", "fail")), "handled main add failed fail")
        self.assertEqual(told_line(("dropped", (-1, 0), "go")), "dropped -1.0 go")
        self.assertEqual(told_line(("answered", ((), 0))), "answered main 0")
        self.assertEqual(told_line(("answered", ((4, 0), 17))), "answered 4.0 17")


class StateReportTests(unittest.TestCase):
    def test_the_first_state(self):
        self.assertEqual(state_report(PROGRAM, STATES[0]), ["main shop on n=4 low=2"])

    def test_calls_and_messages(self):
        self.assertEqual(state_report(PROGRAM, STATES[5]), [
            "main shop on n=-3 low=2", "0 part on share=10", "waits 0 halt", "waits main grow 0", "calls main 0 pay -3", "calls main 1 ring"])

    def test_modes(self):
        self.assertEqual(state_report(PROGRAM, STATES[7]), [
            "main shop on n=-3 low=2", "0 part on share=10", "1 part failed share=0", "waits 0 halt", "waits main paid -5", "waits 1 halt",
            "calls main 1 ring", "calls main 2 ring"])
        self.assertEqual(state_report(PROGRAM, STATES[8])[1], "0 part stopped share=10")
        self.assertEqual(state_report(PROGRAM, STATES[8])[3:5], ["waits main paid -5", "waits 1 halt"])

    def test_paths_ascend(self):
        beings = {path: Being("part", {"share": path[-1]}) for path in ((10,), (2, 0), (2,), (0, 5, 1), (2, 10), (2, 9))}
        self.assertEqual(state_report(PROGRAM, State(beings, [], [], [])), [
            "0.5.1 part on share=1", "2 part on share=2", "2.0 part on share=0", "2.9 part on share=9", "2.10 part on share=10",
            "10 part on share=10"])

    def test_states_in_the_order_of_the_actor(self):
        beings = {(): Being("shop", {"low": -2, "n": 0})}
        self.assertEqual(state_report(PROGRAM, State(beings, [], [], [])), ["main shop on n=0 low=-2"])
        self.assertEqual(state_report(Program([], [Actor("void", [], [], [])]), State({(): Being("void", {})}, [], [], [])), ["main void on"])

    def test_arguments(self):
        state = State({}, [((), "a", (), ("input", 0)), ((0, 1), "b", (1, -2), ("input", 1))],
                      [(((), 3), "pay", (5, -6, 0), None), (((2,), 0), "ring", (), "x")], [(((), 3), "pay", (5, -6, 0))])
        self.assertEqual(state_report(PROGRAM, state), ["waits main a", "waits 0.1 b 1 -2", "calls main 3 pay 5 -6 0", "calls 2 0 ring"])


class ChangesReportTests(unittest.TestCase):
    def test_changes_of_a_history(self):
        self.assertEqual(changes_report(STATES[0], STATES[1]), ["waits input 0"])
        self.assertEqual(changes_report(STATES[1], STATES[2]), ["state main n 4 -3", "came input 0", "calls main 0"])
        self.assertEqual(changes_report(STATES[2], STATES[4]), ["born 0", "waits sent main 0", "calls main 1"])
        self.assertEqual(changes_report(STATES[5], STATES[6]), ["waits answer main 0", "closed main 0"])
        self.assertEqual(changes_report(STATES[7], STATES[8]), ["mode 0 on stopped", "came sent main 0"])
        self.assertEqual(changes_report(STATES[4], STATES[2]), ["missing 0", "came sent main 0", "closed main 1"])
        self.assertEqual(changes_report(STATES[4], STATES[4]), [])

    def test_changes_of_kinds(self):
        first = State({(1, 2): Being("part", {"n": 1})}, [((), "a", (), ("sent", (1, 2), 5))], [], [])
        second = State({(1, 2): Being("shop", {"n": 2}, mode="failed")}, [((), "a", (), ("answer", ((3,), 4)))], [], [])
        self.assertEqual(changes_report(first, second), ["kind 1.2 part shop", "mode 1.2 on failed", "waits answer 3 4", "came sent 1.2 5"])


def report_of(new_text, moment, events=tuple(EVENTS), text=TEXT):
    """Return the report of a branch with the patch by names, after the cost in it was reckoned anew."""
    program, events = read_program(text), list(events)
    one = branch(program, events, moment, by_names(program, read_program(new_text)))
    report = branch_report(program, events, one)
    states = states_of(program, events)
    _, there, here = difference(calls_since(states[moment], states[-1]), calls_since(one.first, one.states[-1]))
    if max(len(there), len(here)) <= 12:
        prices = Prices({name: (2, 2, (1, 0)) for name in ("pay", "ring", "bill")})
        testified = cost(there, here, prices, plan(there, here, prices)[0])
        assert report[-1] == f"cost {testified}"
    return report


class BranchReportTests(unittest.TestCase):
    def test_events_that_fit(self):
        self.assertEqual(report_of(TEXT, len(EVENTS)), ["cost 0"])
        self.assertEqual(report_of(TEXT, 6), ["fits deliver 1", "fits deliver 0", "fits deliver 1", "cost 0"])
        self.assertEqual(report_of(TEXT, 0)[:3] + report_of(TEXT, 0)[-1:], ["fits input main add -7", "fits deliver 0", "fits input main grow 7", "cost 0"])

    def test_events_that_do_not(self):
        events = EVENTS[:7] + [("deliver", 1), ("input", (0,), "halt", ())]
        self.assertEqual(report_of(TEXT.replace("on grow(k)", "on grow(k, l)"), 2, events), [
            "misfit message", "misfit waiting", "misfit message", "fits answer 0 -5", "misfit waiting", "fits deliver 0", "misfit actor",
            "undo main 1 ring", "undo main 2 ring", "cost 4"])

    def test_each_reason_of_a_misfit(self):
        events = EVENTS[:5] + [("input", (0,), "halt", ()), ("deliver", 0), ("input", (), "paid", (2,))]
        kinds = same_patch(PROGRAM).kinds
        for name, becomes, reasons in (("part", None, ["misfit waiting", "misfit actor"]), ("shop", (*kinds["shop"][:2], []), ["misfit message"]),
                                       ("shop", (*kinds["shop"][:2], [("add", "add", [("over", num(1), var("a"))])]), ["misfit message"]),
                                       ("shop", (*kinds["shop"][:2], [("paid", "paid", [("over", num(1), num(0))])]), ["misfit fault"])):
            one = branch(PROGRAM, events, 5, Patch(PROGRAM, {**kinds, name: becomes}, []))
            lines = [line for line in branch_report(PROGRAM, events, one) if line.startswith("misfit")]
            self.assertEqual(sorted(set(lines)), sorted(reasons))
        one = branch(PROGRAM, EVENTS, 5, Patch(PROGRAM, kinds, []))
        self.assertEqual(branch_report(PROGRAM, EVENTS, one)[0], "misfit call")
        stops = read_program(TEXT.replace("set n = n + x", "stop"))
        events = EVENTS[:2] + [("input", (), "add", (3,))]
        self.assertEqual(branch_report(PROGRAM, events, branch(PROGRAM, events, 0, by_names(PROGRAM, stops)))[2], "misfit mode")

    def test_calls_that_differ(self):
        self.assertEqual(report_of(TEXT.replace("n + x", "n + x + x"), 0)[-3:], ["undo main 0 pay -3", "do main 0 pay -10", "cost 1"])
        report = report_of(TEXT.replace("call ring", "call pay(k)"), 2)
        self.assertEqual(report[-5:], ["undo main 1 ring", "undo main 2 ring", "do main 1 pay 7", "do main 2 pay 0", "cost 8"])

    def test_calls_of_a_new_effect(self):
        text = TEXT.replace("effect ring 0", "effect bill 2").replace("call ring", "call bill(k, 0 - k)")
        self.assertEqual(report_of(text, 2)[-5:], ["undo main 1 ring", "undo main 2 ring", "do main 1 bill 7 -7", "do main 2 bill 0 0", "cost 8"])

    def test_calls_from_the_moment_on(self):
        text = TEXT.replace("n + x", "n + x + x")
        self.assertEqual(report_of(text, 2)[-1], "cost 0")
        self.assertEqual([line for line in report_of(text, 1) if line.startswith(("undo", "do"))], ["undo main 0 pay -3", "do main 0 pay -10"])

    def test_many_calls(self):
        for many, word in ((12, "24"), (13, "large")):
            events = [event for k in range(many) for event in (("input", (), "add", (k,)), ("deliver", 0))]
            report = report_of(TEXT.replace("call pay(n) then paid", "set n = n"), 0, events)
            self.assertEqual([line.split(" ")[0] for line in report[2 * many:]], ["undo"] * many + ["cost"])
            self.assertEqual(report[-1], f"cost {word}")
            report = report_of(TEXT, 0, events, TEXT.replace("call pay(n) then paid", "set n = n"))
            self.assertEqual([line.split(" ")[0] for line in report[2 * many:]], ["do"] * many + ["cost"])
            self.assertEqual(report[-1], f"cost {word}")
        # Twelve on each side are changed, at the cost of 1 each.
        events = [event for k in range(12) for event in (("input", (), "add", (k,)), ("deliver", 0))]
        self.assertEqual(report_of(TEXT.replace("pay(n)", "pay(n + 5)"), 0, events)[-1], "cost 12")

    def test_calls_in_the_order_of_their_keys(self):
        text = "effect pay 1\nactor shop\n on grow\n spawn part as a\n end\nend\nactor part\n on go(x)\n call pay(x)\n end\nend"
        events = [("input", (), "grow", ()), ("deliver", 0)] * 12 + [
            event for k in (10, 9, 2, 11, 9) for event in (("input", (k,), "go", (k,)), ("deliver", 0))]
        report = report_of(text.replace("pay(x)", "pay(x + 1)"), 24, events, text)
        self.assertEqual([line.split(" ")[1:3] for line in report[10:-1]], [["2", "0"], ["9", "0"], ["9", "1"], ["10", "0"], ["11", "0"]] * 2)

    def test_nothing_that_is_passed_changes(self):
        one = branch(PROGRAM, EVENTS, 2, by_names(PROGRAM, PROGRAM))
        before = attributes(frozen([PROGRAM, EVENTS, one, STATES]))
        branch_report(PROGRAM, EVENTS, one).clear()
        state_report(PROGRAM, STATES[5]).clear()
        changes_report(STATES[0], STATES[5]).clear()
        self.assertEqual(attributes([PROGRAM, EVENTS, one, STATES]), before)


NEW = read_program("""effect ring 1
effect pay 1
effect more 0
actor store
  state low = 1
  state fresh = 2
  on add(x)
  end
  on paid
  end
  on grow(z)
  end
end
""")


class ByNamesTests(unittest.TestCase):
    def test_a_patch(self):
        patch = by_names(PROGRAM, NEW)
        self.assertIs(patch.program, NEW)
        self.assertEqual(patch.kinds, {
            "shop": ("store", [("low", ("name", "low")), ("fresh", num(0))],
                     [("add", "add", [("name", "a")]), ("grow", "grow", [("name", "a")])]),
            "part": None})
        self.assertEqual(patch.effects, [("pay", "pay", [("name", "a")])])

    def test_the_main_kind(self):
        other = read_program("actor part\n on halt\n end\nend\nactor shop\n on add(k)\n end\nend")
        patch = by_names(PROGRAM, other)
        self.assertEqual(patch.kinds, {"shop": ("part", [], []), "part": ("part", [], [("halt", "halt", [])])})
        self.assertEqual(by_names(other, PROGRAM).kinds, {
            "part": ("shop", [("n", num(0)), ("low", num(0))], []), "shop": ("shop", [("n", num(0)), ("low", num(0))],
                                                                             [("add", "add", [("name", "a")])])})

    def test_arguments(self):
        text = "effect e 4\nactor main\n on go(w, x, y, z)\n end\n on to(q, r)\n end\nend"
        patch = by_names(read_program(text), read_program(text))
        names = [("name", letter) for letter in "abcd"]
        self.assertEqual(patch.kinds, {"main": ("main", [], [("go", "go", names), ("to", "to", names[:2])])})
        self.assertEqual(patch.effects, [("e", "e", names)])

    def test_to_the_program_itself(self):
        for program, _ in histories(60, 1):
            patch, same = by_names(program, program), same_patch(program)
            self.assertEqual((patch.kinds, patch.effects), (same.kinds, same.effects))

    def test_patches_by_names_are_as_described(self):
        programs = [program for program, _ in histories(40, 1)]
        for old in programs:
            for new in programs:
                patch = by_names(old, new)
                self.assertIsInstance(patch, Patch)
                self.assertIsNone(check_patch(old, patch))

    def test_programs_stay_as_they_are(self):
        before = attributes(frozen([PROGRAM, NEW]))
        patch = by_names(PROGRAM, NEW)
        patch.kinds["shop"][1].clear()
        patch.kinds["shop"][2][0][2].clear()
        patch.effects.clear()
        self.assertEqual(attributes([PROGRAM, NEW]), before)


if __name__ == "__main__":
    unittest.main()
