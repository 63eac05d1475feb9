import unittest

from retroact.errors import ConversionFault, Fault, InvalidPatch
from retroact.history import states_of
from retroact.machine import Being, State, same_state
from retroact.patches import Patch, check_patch, convert, converted_call, converted_message, same_patch
from retroact.program import Actor, Program

from tests.helpers import attributes, fault_of, frozen, num, var
from tests.samples import histories, programs

A, B, C, D = var("a"), var("b"), var("c"), var("d")
ZERO = ("over", num(1), num(0))
TOP = 1000000000

OLD = Program([("pay", 1), ("ring", 0), ("wide", 4)], [
    Actor("main", [], [("n", num(4)), ("t", num(0))], [
        ("add", ["x"], []), ("pair", ["x", "y"], []), ("halt", [], [("stop",)]), ("four", ["x", "y", "z", "w"], []),
    ]),
    Actor("helper", ["p"], [("k", num(1))], [("work", ["x"], []), ("idle", [], [])]),
    Actor("other", [], [], [("go", [], [])]),
])
NEW = Program([("mail", 2), ("pay", 1), ("bell", 0)], [
    Actor("shop", [], [("m", num(7)), ("n", num(8))], [("plus", ["x"], []), ("both", ["y", "x"], []), ("halt", [], [])]),
    Actor("hand", ["q"], [("k", num(1)), ("r", num(1))], [("work", ["x", "y"], []), ("idle", [], [])]),
    Actor("plain", [], [], []),
])
MAIN_STATES = [("m", ("plus", var("n"), num(100))), ("n", ("over", num(60), var("t")))]
MAIN_MESSAGES = [("add", "plus", [("times", A, num(2))]), ("pair", "both", [B, A]),
                 ("four", "plus", [("minus", A, ("over", B, ("plus", C, D)))])]
HELPER_STATES = [("k", ("negative", var("k"))), ("r", num(5))]
HELPER_MESSAGES = [("work", "work", [A, ("over", num(10), A)])]
KINDS = {"main": ("shop", MAIN_STATES, MAIN_MESSAGES), "helper": ("hand", HELPER_STATES, HELPER_MESSAGES), "other": None}
EFFECTS = [("pay", "mail", [A, ("over", num(100), A)]), ("wide", "pay", [("plus", ("plus", A, B), ("plus", C, D))])]
PATCH = Patch(NEW, KINDS, EFFECTS)


def patch_with(kinds=None, effects=None):
    """Return the patch with other tuples for some kinds, or other effects; "left out" leaves a kind out."""
    both = {**KINDS, **(kinds or {})}
    return Patch(NEW, {kind: both[kind] for kind in both if both[kind] != "left out"}, EFFECTS if effects is None else effects)


def main_with(kind="shop", states=None, messages=None):
    return (kind, MAIN_STATES if states is None else states, MAIN_MESSAGES if messages is None else messages)


def helper_with(kind="hand", states=None, messages=None):
    return (kind, HELPER_STATES if states is None else states, HELPER_MESSAGES if messages is None else messages)


def name_told(call, *arguments):
    """Return the name of the InvalidPatch that a call raises, or None."""
    try:
        call(*arguments)
    except InvalidPatch as error:
        return error.name
    return None


def conversion_fault(state, patch=PATCH):
    """Return (path, reason) of the ConversionFault, or None."""
    try:
        convert(OLD, patch, state)
    except ConversionFault as fault:
        return (fault.path, fault.reason)
    return None


def main_being(n=4, t=3, **more):
    return Being("main", {"n": n, "t": t}, **more)


def helper_being(k=1, **more):
    return Being("helper", {"k": k}, **more)


class PatchTests(unittest.TestCase):
    def test_attributes(self):
        patch = Patch(program=NEW, kinds=KINDS, effects=EFFECTS)
        self.assertIs(patch.program, NEW)
        self.assertEqual((patch.kinds, patch.effects), (KINDS, EFFECTS))


class CheckTests(unittest.TestCase):
    def check_kind(self, name, wrong):
        self.assertEqual(name_told(check_patch, OLD, patch_with({name: wrong})), name, wrong)
        self.assertEqual(name_told(convert, OLD, patch_with({name: wrong}), State({}, [], [], [])), name, wrong)

    def check_effect(self, name, effects):
        self.assertEqual(name_told(check_patch, OLD, patch_with(effects=effects)), name, effects)

    def check_right(self, patch):
        self.assertIsNone(check_patch(OLD, patch))

    def test_right_patches(self):
        kept = attributes(frozen([OLD, PATCH]))
        self.check_right(PATCH)
        self.assertEqual(attributes([OLD, PATCH]), kept)
        self.check_right(patch_with(effects=[]))
        self.check_right(patch_with(effects=[("pay", "pay", [A]), ("ring", "pay", [num(1)]), ("wide", "pay", [D])]))
        self.check_right(patch_with({"helper": None, "other": ("plain", [], [])}))
        self.check_right(patch_with({"main": main_with(messages=[])}))
        self.check_right(patch_with({"main": main_with(messages=[("halt", "plus", [num(1)]), ("add", "plus", [A])])}))
        self.check_right(patch_with({"helper": ("shop", [("m", num(1)), ("n", num(2))], [("idle", "halt", [])])}))
        for program in programs(40):
            self.assertIsNone(check_patch(program, same_patch(program)))

    def test_kinds_that_the_old_program_does_not_have(self):
        self.check_right(patch_with({"nobody": None, "ghost": ("nothing", [("x", num(1))], [])}))

    def test_kinds_that_are_not_named(self):
        for name in ("main", "helper", "other"):
            self.check_kind(name, "left out")

    def test_the_main_kind(self):
        self.check_kind("main", None)
        self.check_kind("main", ("plain", [], []))
        self.check_kind("main", ("hand", [("k", num(1)), ("r", num(2))], []))

    def test_new_kinds(self):
        self.check_kind("helper", helper_with("helper"))
        self.check_kind("other", ("other", [], []))
        self.check_kind("main", main_with("main"))

    def test_new_states(self):
        one, two = HELPER_STATES
        for states in ([one], [two], [], [two, one], [one, two, ("s", num(1))], [one, two, two], [one, one],
                       [("kk", num(1)), two]):
            self.check_kind("helper", helper_with(states=states))

    def test_names_of_state_expressions(self):
        for expression in (var("p"), var("r"), var("n"), var("x"), A, ("plus", num(1), ("not", var("q")))):
            self.check_kind("helper", helper_with(states=[("k", expression), ("r", num(1))]))
            self.check_kind("helper", helper_with(states=[("k", num(1)), ("r", expression)]))
        self.check_kind("main", main_with(states=[("m", var("m")), ("n", num(1))]))

    def test_numbers_of_expressions(self):
        for number in (TOP + 1, -TOP - 1):
            self.check_kind("helper", helper_with(states=[("k", num(number)), ("r", num(1))]))
            self.check_kind("helper", helper_with(messages=[("work", "work", [A, num(number)])]))
            self.check_effect("pay", [("pay", "pay", [num(number)])])
        self.check_right(patch_with({"helper": helper_with(states=[("k", num(TOP)), ("r", num(-TOP))])}))

    def test_old_messages(self):
        for old in ("plus", "go", "add", "nothing", "k"):
            self.check_kind("helper", helper_with(messages=[(old, "idle", [])]))
        self.check_kind("helper", helper_with(messages=[("idle", "idle", []), ("idle", "idle", [])]))
        self.check_kind("helper", helper_with(messages=[("idle", "idle", []), ("work", "idle", []),
                                                        ("idle", "work", [num(1), num(2)])]))

    def test_new_messages(self):
        for new in ("plus", "add", "nothing", "k", "halt"):
            self.check_kind("helper", helper_with(messages=[("idle", new, [])]))
        self.check_kind("main", main_with(messages=[("add", "add", [A])]))

    def test_numbers_of_arguments(self):
        for many in (0, 1, 3, 4):
            self.check_kind("helper", helper_with(messages=[("work", "work", [A] * many)]))
        for many in (1, 2):
            self.check_kind("helper", helper_with(messages=[("work", "idle", [A] * many)]))

    def test_names_of_arguments(self):
        for old, right, wrong in (("halt", [num(1)], [A, B, C, D]), ("add", [A], [B, C, D]), ("pair", [A, B], [C, D]),
                                  ("four", [A, B, C, D], [var("e")])):
            for name in right:
                self.check_right(patch_with({"main": main_with(messages=[(old, "plus", [name])])}))
            for name in wrong + [var("x"), var("n"), var("m"), var("ab"), var("abcd")]:
                self.check_kind("main", main_with(messages=[(old, "plus", [name])]))
                self.check_kind("main", main_with(messages=[(old, "both", [num(1), ("not", name)])]))

    def test_effects(self):
        self.check_effect("mail", [("mail", "mail", [num(1), num(2)])])
        self.check_effect("bell", [("bell", "bell", [])])
        self.check_effect("add", [("add", "bell", [])])
        self.check_effect("ring", [("ring", "ring", [])])
        self.check_effect("ring", [("ring", "wide", [num(1)] * 4)])
        self.check_effect("ring", [("ring", "halt", [])])
        for many in (0, 1, 3):
            self.check_effect("pay", [("pay", "mail", [A] * many)])
        self.check_effect("pay", [("pay", "bell", [A])])
        self.check_effect("pay", [("pay", "pay", [B])])
        self.check_effect("ring", [("ring", "pay", [A])])
        self.check_effect("wide", [("wide", "pay", [var("e")])])
        self.check_effect("wide", [("wide", "mail", [D, ("plus", A, var("x"))])])
        self.check_effect("pay", [("pay", "pay", [A]), ("pay", "mail", [A, A])])
        self.check_effect("pay", [("pay", "pay", [A]), ("ring", "bell", []), ("pay", "pay", [A])])

    def test_which_name_is_told(self):
        wrong = ("nothing", [], [])
        effects = [("pay", "pay", [A]), ("ring", "nothing", []), ("nobody", "bell", [])]
        told = name_told(check_patch, OLD, Patch(NEW, {"other": wrong, "helper": wrong, "main": wrong}, effects))
        self.assertEqual(told, "main")
        self.assertEqual(name_told(check_patch, OLD, patch_with({"helper": "left out", "other": wrong}, effects)), "helper")
        self.assertEqual(name_told(check_patch, OLD, patch_with({"helper": wrong, "other": "left out"}, effects)), "helper")
        self.assertEqual(name_told(check_patch, OLD, patch_with({"other": wrong}, effects)), "other")
        self.assertEqual(name_told(check_patch, OLD, patch_with(effects=effects)), "ring")
        self.assertEqual(name_told(check_patch, OLD, patch_with(effects=effects[::-1])), "nobody")
        self.assertEqual(name_told(check_patch, OLD, Patch(NEW, {}, [])), "main")

    def test_the_patch_is_checked_first(self):
        state = State({(): main_being(t=0)}, [], [], [])
        self.assertEqual(conversion_fault(state), ((), "zero"))
        self.assertEqual(name_told(convert, OLD, patch_with(effects=[("ring", "nothing", [])]), state), "ring")


class SamePatchTests(unittest.TestCase):
    def test_what_it_has(self):
        patch = same_patch(OLD)
        self.assertIs(patch.program, OLD)
        self.assertEqual(patch.kinds["main"], ("main", [("n", var("n")), ("t", var("t"))], [
            ("add", "add", [A]), ("pair", "pair", [A, B]), ("halt", "halt", []), ("four", "four", [A, B, C, D])]))
        self.assertEqual(patch.kinds["helper"], ("helper", [("k", var("k"))], [("work", "work", [A]), ("idle", "idle", [])]))
        self.assertEqual(patch.kinds["other"], ("other", [], [("go", "go", [])]))
        self.assertEqual(patch.effects, [("pay", "pay", [A]), ("ring", "ring", []), ("wide", "wide", [A, B, C, D])])

    def test_states_stay(self):
        for program, events in histories(40, 10):
            kept = attributes(frozen(program))
            patch = same_patch(program)
            for state in states_of(program, events):
                after = convert(program, patch, state)
                self.assertTrue(same_state(State(after.beings, [], [], after.gone), State(state.beings, [], [], state.gone)))
                self.assertEqual(list(after.waiting), [row for row in state.waiting if row in after.waiting])
            self.assertEqual(attributes(program), kept)


class ConvertTests(unittest.TestCase):
    def check(self, state, expected, patch=PATCH):
        kept = attributes(frozen([OLD, NEW, patch, state]))
        after = convert(OLD, patch, state)
        self.assertTrue(same_state(after, expected), f"{attributes(after)}\n{attributes(expected)}")
        self.assertEqual(attributes([OLD, NEW, patch, state]), kept)
        return after

    def test_beings(self):
        state = State({
            (): main_being(n=4, t=3, spawned=3, sent=5, called=2), (0,): helper_being(7, mode="stopped"),
            (2,): helper_being(-1, mode="failed", sent=1), (2, 0): main_being(0, -7, called=9),
        }, [], [], [])
        after = self.check(state, State({
            (): Being("shop", {"m": 104, "n": 20}, spawned=3, sent=5, called=2),
            (0,): Being("hand", {"k": -7, "r": 5}, mode="stopped"), (2,): Being("hand", {"k": 1, "r": 5}, mode="failed", sent=1),
            (2, 0): Being("shop", {"m": 100, "n": -9}, called=9),
        }, [], [], []))
        self.assertEqual(list(after.beings[()].states), ["m", "n"])

    def test_removed_beings_and_those_below_them(self):
        other = Being("other", {})
        state = State({
            (): main_being(), (1,): helper_being(), (1, 0): other, (1, 0, 2): helper_being(), (1, 0, 2, 3): main_being(t=0),
            (1, 1): helper_being(), (10,): other, (10, 0): helper_being(), (2,): helper_being(), (0,): other,
        }, [], [], [])
        after = convert(OLD, PATCH, state)
        self.assertEqual(sorted(after.beings), [(), (1,), (1, 1), (2,)])
        # The order in which the state has its beings does not matter.
        turned = State({path: state.beings[path] for path in list(state.beings)[::-1]}, [], [], [])
        self.assertEqual(sorted(convert(OLD, PATCH, turned).beings), [(), (1,), (1, 1), (2,)])
        patch = patch_with({"helper": None, "other": ("plain", [], [])})
        self.assertEqual(sorted(convert(OLD, patch, state).beings), [(), (0,), (10,)])
        self.assertEqual(convert(OLD, patch, state).beings[(0,)].kind, "plain")

    def test_messages_that_stay(self):
        state = State({(): main_being(), (0,): helper_being(mode="stopped"), (1,): main_being(mode="failed")}, [
            ((0,), "work", (5,), ("sent", (9,), 3)), ((), "pair", (1, 2), ("input", 7)),
            ((1,), "four", (10, 9, 1, 2), ("answer", ((), 1))), ((), "add", (-3,), ("input", 0)),
        ], [], [])
        after = convert(OLD, PATCH, state)
        self.assertEqual(after.waiting, [
            ((0,), "work", (5, 2), ("sent", (9,), 3)), ((), "both", (2, 1), ("input", 7)),
            ((1,), "plus", (7,), ("answer", ((), 1))), ((), "plus", (-6,), ("input", 0)),
        ])

    def test_messages_that_are_left_out(self):
        state = State({(): main_being(), (0,): Being("other", {}), (0, 1): main_being(), (2,): helper_being()}, [], [], [])
        stays = ((), "add", (1,), ("input", 0))
        for path, message, arguments in (
            ((0,), "go", ()), ((0, 1), "add", (1,)), ((0, 1, 0), "add", (1,)),
            ((), "halt", ()), ((2,), "idle", ()), ((), "plus", (1,)), ((2,), "add", (1,)), ((), "work", (1,)),
            ((), "add", ()), ((), "add", (1, 2)), ((), "pair", (1,)), ((2,), "work", ()), ((2,), "work", (1, 1)),
            ((1,), "add", (1,)), ((2, 0), "work", (1,)), ((3,), "work", (1,)),
        ):
            row = (path, message, arguments, ("input", 1))
            state.waiting = [row, stays, row[:3] + (("input", 2),)]
            self.assertEqual(convert(OLD, PATCH, state).waiting, [((), "plus", (2,), ("input", 0))], row)

    def test_left_out_messages_have_no_faults(self):
        patch = patch_with({"main": main_with(messages=[("add", "plus", [ZERO])])})
        state = State({(): main_being(), (0,): Being("other", {})}, [
            ((), "add", (1, 2), ("input", 0)), ((0,), "add", (1,), ("input", 1)), ((1,), "add", (1,), ("input", 2)),
        ], [], [])
        self.assertEqual(convert(OLD, patch, state).waiting, [])
        state.waiting.append(((), "add", (1,), ("input", 3)))
        self.assertEqual(conversion_fault(state, patch), ((), "zero"))

    def test_calls_that_stay(self):
        state = State({(): main_being(), (0,): helper_being(mode="failed")}, [], [
            (((), 4), "pay", (20,), "add"), (((0,), 0), "wide", (1, 2, 3, 4), None), (((), 1), "pay", (3,), "pair"),
            (((0,), 1), "pay", (-7,), "work"),
        ], [(((), 4), "pay", (20,)), (((5,), 0), "ring", ())])
        after = convert(OLD, PATCH, state)
        self.assertEqual(after.pending, [
            (((), 4), "mail", (20, 5), "plus"), (((0,), 0), "pay", (10,), None), (((), 1), "mail", (3, 33), "both"),
            (((0,), 1), "mail", (-7, -15), "work"),
        ])
        self.assertEqual(after.gone, [(((), 4), "pay", (20,)), (((5,), 0), "ring", ())])

    def test_calls_that_are_left_out(self):
        state = State({(): main_being(), (0,): Being("other", {}), (0, 1): main_being(), (2,): helper_being()}, [], [], [])
        stays = (((), 0), "pay", (10,), None)
        for key, effect, message in (
            (((0,), 0), "pay", None), (((0, 1), 0), "pay", "add"), (((), 1), "ring", None), (((), 1), "mail", None),
            (((), 1), "pay", "halt"), (((), 1), "pay", "plus"), (((), 1), "pay", "work"), (((2,), 1), "pay", "add"),
            (((2,), 1), "pay", "idle"),
        ):
            arguments = () if effect == "ring" else (10,)
            state.pending = [(key, effect, arguments, message), stays]
            state.gone = [(key, effect, arguments), stays[:3]]
            after = convert(OLD, PATCH, state)
            self.assertEqual(after.pending, [(((), 0), "mail", (10, 10), None)], (key, effect, message))
            self.assertEqual(after.gone, state.gone)

    def test_left_out_calls_have_no_faults(self):
        state = State({(): main_being(), (0,): Being("other", {})}, [], [
            (((0,), 0), "pay", (0,), None), (((), 0), "pay", (0,), "halt"),
        ], [])
        self.assertEqual(convert(OLD, PATCH, state).pending, [])

    def test_nothing_is_shared(self):
        state = State({(): main_being()}, [((), "add", (1,), ("input", 0))], [(((), 0), "pay", (10,), None)], [1])
        kept = attributes(frozen(state))
        after = convert(OLD, PATCH, state)
        after.beings[()].states["n"] = 99
        for rows in (after.waiting, after.pending, after.gone, after.beings):
            rows.clear()
        self.assertEqual(attributes(state), kept)


class FaultTests(unittest.TestCase):
    def test_places_and_reasons(self):
        self.assertEqual(conversion_fault(State({(): main_being(t=0)}, [], [], [])), ((), "zero"))
        self.assertEqual(conversion_fault(State({(): main_being(n=TOP)}, [], [], [])), ((), "range"))
        self.assertEqual(conversion_fault(State({(): main_being(), (3,): main_being(t=0)}, [], [], [])), ((3,), "zero"))
        beings = {(): main_being(), (0,): helper_being()}
        message = ((0,), "work", (0,), ("sent", (), 1))
        self.assertEqual(conversion_fault(State(beings, [message], [], [])), ((0,), "zero"))
        message = ((), "add", (TOP,), ("sent", (0,), 1))
        self.assertEqual(conversion_fault(State(beings, [message], [], [])), ((), "range"))
        self.assertEqual(conversion_fault(State(beings, [], [(((0,), 0), "pay", (0,), None)], [])), ((0,), "zero"))
        self.assertEqual(conversion_fault(State(beings, [], [(((), 0), "wide", (TOP, 1, 1, 1), None)], [])), ((), "range"))

    def test_which_fault_is_the_first(self):
        bad, good = main_being(t=0), main_being()
        faulty = [((1,), "add", (TOP,), ("input", 0)), ((2,), "work", (0,), ("input", 1)), ((), "add", (TOP,), ("input", 2))]
        calls = [(((3,), 0), "pay", (0,), None), (((), 0), "wide", (TOP, 1, 1, 1), None)]
        beings = {(10,): bad, (2, 0): main_being(n=TOP), (1,): good, (): good, (2,): helper_being(), (3,): helper_being()}
        self.assertEqual(conversion_fault(State(beings, faulty, calls, [])), ((2, 0), "range"))
        del beings[(2, 0)]
        self.assertEqual(conversion_fault(State(beings, faulty, calls, [])), ((10,), "zero"))
        del beings[(10,)]
        self.assertEqual(conversion_fault(State(beings, faulty, calls, [])), ((1,), "range"))
        self.assertEqual(conversion_fault(State(beings, faulty[1:], calls, [])), ((2,), "zero"))
        self.assertEqual(conversion_fault(State(beings, faulty[2:], calls, [])), ((), "range"))
        self.assertEqual(conversion_fault(State(beings, [], calls, [])), ((3,), "zero"))
        self.assertEqual(conversion_fault(State(beings, [], calls[1:], [])), ((), "range"))
        self.assertIsNone(conversion_fault(State(beings, [], [], [])))

    def test_the_first_fault_of_a_being(self):
        patch = patch_with({"main": main_with(states=[("m", ("times", var("n"), var("n"))), ("n", ZERO)])})
        self.assertEqual(conversion_fault(State({(): main_being(n=TOP)}, [], [], []), patch), ((), "range"))
        self.assertEqual(conversion_fault(State({(): main_being(n=1)}, [], [], []), patch), ((), "zero"))

    def test_removed_beings_have_no_faults(self):
        state = State({(): main_being(), (0,): Being("other", {}), (0, 0): main_being(t=0)}, [], [], [])
        self.assertIsNone(conversion_fault(state))


class ConvertedTests(unittest.TestCase):
    def test_messages(self):
        kept = attributes(frozen(PATCH))
        self.assertEqual(converted_message(PATCH, "main", "add", (3,)), ("plus", (6,)))
        self.assertEqual(converted_message(PATCH, "main", "pair", (1, 2)), ("both", (2, 1)))
        self.assertEqual(converted_message(PATCH, "main", "four", (10, 9, 1, 2)), ("plus", (7,)))
        self.assertEqual(converted_message(PATCH, "helper", "work", (3,)), ("work", (3, 3)))
        self.assertEqual(attributes(PATCH), kept)

    def test_messages_that_are_not_named(self):
        for kind, message in (("main", "halt"), ("main", "plus"), ("main", "work"), ("helper", "idle"), ("helper", "add"),
                              ("other", "go")):
            self.assertIsNone(converted_message(PATCH, kind, message, ()))

    def test_calls(self):
        self.assertEqual(converted_call(PATCH, "pay", (7,)), ("mail", (7, 14)))
        self.assertEqual(converted_call(PATCH, "wide", (1, 2, 3, 4)), ("pay", (10,)))
        for effect in ("ring", "mail", "bell"):
            self.assertIsNone(converted_call(PATCH, effect, ()))
        self.assertEqual(converted_call(patch_with(effects=[("ring", "bell", [])]), "ring", ()), ("bell", ()))

    def test_faults(self):
        self.assertEqual(fault_of(converted_message, PATCH, "helper", "work", (0,)), "zero")
        self.assertEqual(fault_of(converted_message, PATCH, "main", "add", (TOP,)), "range")
        self.assertEqual(fault_of(converted_call, PATCH, "pay", (0,)), "zero")
        self.assertEqual(fault_of(converted_call, PATCH, "wide", (TOP, TOP, 0, 0)), "range")
        with self.assertRaises(Fault):
            converted_call(PATCH, "pay", (0,))


if __name__ == "__main__":
    unittest.main()
