import unittest

from retroact.branches import branch, branch_events
from retroact.errors import ConversionFault, InvalidPatch
from retroact.history import states_of
from retroact.kinds import handler_of
from retroact.machine import apply, is_possible, same_state
from retroact.patches import Patch, convert, same_patch
from retroact.program import Actor, Program

from tests.helpers import attributes, frozen, num, var
from tests.samples import Maker, histories

A, B = var("a"), var("b")
STOP = ("stop",)
TOP = 1000000000


def grow(kind):
    return ("grow", [], [("spawn", kind, [], "c")])


OLD = Program([("pay", 1), ("ring", 0)], [
    Actor("main", [], [("n", num(0))], [
        ("add", ["x"], [("set", "n", ("plus", var("n"), var("x")))]),
        ("pay", ["x"], [("call", "pay", [var("x")], "add")]),
        ("ring", [], [("call", "ring", [], None)]),
        ("tell", ["x"], [("send", ("self",), "add", [var("x")]), ("send", ("self",), "add", [num(7)])]),
        ("halt", [], []),
        grow("helper"),
    ]),
    Actor("helper", [], [("k", num(1))], [("work", ["x"], [("set", "k", var("x"))]), grow("helper"), ("halt", [], [])]),
    Actor("other", [], [], []),
])
# In the new program `halt` stops, `tell` sends in another order, and the helpers are hands.
NEW = Program([("pay", 1), ("ring", 0), ("mail", 2)], [
    Actor("shop", [], [("n", num(0))], [
        ("add", ["x"], [("set", "n", ("minus", var("n"), var("x")))]),
        ("pay", ["x"], [("call", "pay", [var("x")], "add")]),
        ("ring", [], [("call", "ring", [], None)]),
        ("tell", ["x"], [("send", ("self",), "add", [var("x")]), ("send", ("self",), "add", [num(8)]),
                         ("send", ("self",), "add", [num(9)])]),
        ("halt", [], [STOP]),
        grow("hand"),
        ("quiet", [], []),
    ]),
    Actor("hand", [], [("k", num(1))], [("work", ["x"], [("set", "k", var("x"))]), grow("hand"), ("halt", [], [STOP])]),
    Actor("other", [], [], []),
])
MAIN_MESSAGES = [("add", "add", [A]), ("pay", "pay", [A]), ("ring", "ring", []), ("tell", "tell", [A]), ("halt", "halt", []),
                 ("grow", "grow", [])]
HELPER_MESSAGES = [("work", "work", [A]), ("grow", "grow", []), ("halt", "halt", [])]
EFFECTS = [("pay", "pay", [A]), ("ring", "ring", [])]


def patch_with(main=None, helper=None, effects=None, program=NEW):
    messages = {old: (old, new, expressions) for old, new, expressions in MAIN_MESSAGES}
    messages.update({row[0]: row for row in main or []})
    kept = [row for row in messages.values() if row[1] is not None]
    return Patch(program, {
        "main": ("shop", [("n", var("n"))], kept),
        "helper": ("hand", [("k", var("k"))], HELPER_MESSAGES) if helper is None else helper,
        "other": None,
    }, EFFECTS if effects is None else effects)


NO_HELPERS = Patch(NEW, {"main": ("shop", [("n", var("n"))], MAIN_MESSAGES), "helper": None, "other": None}, EFFECTS)


def take(message, *arguments, path=()):
    return ("input", path, message, arguments)


def fits_of(events, moment, patch):
    """Return what is told of each later event; that the parts of the branch belong together is checked, too."""
    kept = attributes(frozen([OLD, events, patch]))
    one = branch(OLD, events, moment, patch)
    assert attributes([OLD, events, patch]) == kept
    check_parts(OLD, events, one, moment, patch)
    return one.fits


def check_parts(program, events, one, moment, patch):
    """Check what holds for every branch: the states are what the fitted events make of the converted state."""
    assert (one.moment, one.patch) == (moment, patch)
    assert same_state(one.first, convert(program, patch, states_of(program, events)[moment]))
    state = one.first
    states = [state]
    for at, (word, told) in enumerate(one.fits):
        assert word in ("fits", "misfit")
        if word == "fits":
            assert told[0] == events[moment + at][0] and is_possible(patch.program, state, told)
            state, _ = apply(patch.program, state, told, moment + at)
        states.append(state)
    assert len(one.fits) == len(events) - moment and len(one.states) == len(states)
    assert all([same_state(state, other) for state, other in zip(states, one.states)])
    assert branch_events(one) == [told for word, told in one.fits if word == "fits"]


class BranchTests(unittest.TestCase):
    def test_a_branch(self):
        events = [take("add", 3), ("deliver", 0), take("pay", 5), ("deliver", 0), ("answer", 0, 2), ("deliver", 0)]
        for moment in range(7):
            one = branch(OLD, events, moment, patch_with())
            check_parts(OLD, events, one, moment, one.patch)
            self.assertEqual(one.fits, [("fits", event) for event in events[moment:]])
            numbers = [0, 0, 3, 3, 3, 3, 5]
            first = numbers[moment]
            later = [first - (number - first) for number in numbers[moment:]]
            self.assertEqual([state.beings[()].states["n"] for state in one.states], later)
            self.assertEqual(one.states[-1].beings[()].kind, "shop")

    def test_the_last_moment(self):
        events = [take("add", 3), ("deliver", 0), take("pay", 5)]
        one = branch(OLD, events, 3, patch_with())
        self.assertEqual((one.fits, branch_events(one), len(one.states)), ([], [], 1))
        self.assertTrue(same_state(one.states[0], one.first))
        self.assertEqual(one.first.waiting, [((), "pay", (5,), ("input", 2))])

    def test_events_have_their_moments(self):
        events = [take("add", 1), take("add", 2), take("halt"), take("add", 3)]
        one = branch(OLD, events, 1, patch_with([("halt", None, [])]))
        self.assertEqual([word for word, _ in one.fits], ["fits", "misfit", "fits"])
        self.assertEqual([row[3] for row in one.states[-1].waiting], [("input", 0), ("input", 1), ("input", 3)])

    def test_states_share_nothing(self):
        events = [take("add", 1), take("halt"), take("halt"), ("deliver", 0)]
        one = branch(OLD, events, 0, patch_with([("halt", None, [])]))
        states = [one.first] + one.states
        kept = attributes(frozen(states))
        for at, state in enumerate(states):
            state.beings[()].states["n"] = 99
            for rows in (state.beings, state.waiting, state.pending, state.gone):
                rows.clear()
            self.assertEqual(attributes(states[at + 1:]), kept[at + 1:])

    def test_errors(self):
        events = [take("add", 1), ("deliver", 0)]
        with self.assertRaises(InvalidPatch) as caught:
            branch(OLD, events, 1, patch_with(helper=("nothing", [], [])))
        self.assertEqual(caught.exception.name, "helper")
        patch = patch_with([("add", "add", [("over", num(1), num(0))])])
        with self.assertRaises(ConversionFault) as caught:
            branch(OLD, events, 1, patch)
        self.assertEqual((caught.exception.path, caught.exception.reason), ((), "zero"))
        self.assertEqual(fits_of(events, 0, patch), [("misfit", "fault"), ("misfit", "waiting")])


class InputTests(unittest.TestCase):
    def test_new_messages_and_arguments(self):
        patch = patch_with([("add", "tell", [("times", A, num(2))]), ("halt", "pay", [num(4)]), ("pay", "quiet", [])])
        events = [take("add", 3), take("halt"), take("pay", 1), take("tell", 5)]
        self.assertEqual(fits_of(events, 0, patch), [("fits", take("tell", 6)), ("fits", take("pay", 4)),
                                                     ("fits", take("quiet")), ("fits", take("tell", 5))])

    def test_actors_that_are_not_there(self):
        events = [take("grow"), ("deliver", 0), take("work", 1, path=(0,)), take("work", 2, path=(0,))]
        self.assertEqual(fits_of(events, 2, NO_HELPERS), [("misfit", "actor")] * 2)
        quiet = patch_with([("grow", "quiet", [])])
        self.assertEqual(fits_of(events, 1, quiet)[1:], [("misfit", "actor")] * 2)
        self.assertEqual(fits_of(events, 1, patch_with())[1:], [("fits", event) for event in events[2:]])

    def test_actors_that_are_not_on(self):
        events = [take("halt"), ("deliver", 0), take("add", 1), take("tell", 1)]
        self.assertEqual(fits_of(events, 0, patch_with()), [("fits", events[0]), ("fits", ("deliver", 0)),
                                                            ("misfit", "mode"), ("misfit", "mode")])
        failing = Program(NEW.effects, [frozen(actor) for actor in NEW.actors])
        failing.actors[0].handlers[4] = ("halt", [], [("fail",)])
        self.assertEqual(fits_of(events, 0, patch_with(program=failing))[2:], [("misfit", "mode")] * 2)

    def test_messages_that_are_not_named(self):
        events = [take("add", 1), take("tell", 1)]
        self.assertEqual(fits_of(events, 0, patch_with([("add", None, [])])), [("misfit", "message"), ("fits", events[1])])

    def test_kinds_that_became_nothing(self):
        # In the branch the child is born as a hand, while the patch has None for the kind of the history's child.
        events = [take("grow"), ("deliver", 0), take("work", 1, path=(0,))]
        self.assertEqual(fits_of(events, 0, NO_HELPERS)[2], ("misfit", "message"))

    def test_other_kinds_than_the_patch_says(self):
        spawns_others = Program(NEW.effects, [frozen(actor) for actor in NEW.actors])
        spawns_others.actors[0].handlers[5] = grow("other")
        events = [take("grow"), ("deliver", 0), take("work", 1, path=(0,))]
        self.assertEqual(fits_of(events, 0, patch_with(program=spawns_others))[2], ("misfit", "message"))
        self.assertEqual(fits_of(events, 2, patch_with(program=spawns_others)), [("fits", events[2])])

    def test_faults(self):
        patch = patch_with([("add", "add", [("over", num(10), A)]), ("pay", "add", [("times", A, A)])])
        events = [take("add", 0), take("add", 3), take("pay", TOP), take("pay", 2)]
        self.assertEqual(fits_of(events, 0, patch), [("misfit", "fault"), ("fits", take("add", 3)),
                                                     ("misfit", "fault"), ("fits", take("add", 4))])

    def test_which_reason_comes_first(self):
        zero = [("over", num(1), num(0))]
        faulty = ("hand", [("k", var("k"))], [("work", "work", zero)])
        events = [take("grow"), ("deliver", 0), take("halt", path=(0,)), ("deliver", 0), take("work", 1, path=(0,))]
        # Neither there nor of a kind that became something.
        self.assertEqual(fits_of(events, 2, NO_HELPERS)[2], ("misfit", "actor"))
        # Not there, and the expressions have a fault.
        quiet = patch_with([("grow", "quiet", [])], faulty)
        self.assertEqual(fits_of(events, 0, quiet)[4], ("misfit", "actor"))
        # Stopped, and the message is not named.
        unnamed = patch_with(helper=("hand", [("k", var("k"))], [("halt", "halt", [])]))
        self.assertEqual(fits_of(events, 0, unnamed)[4], ("misfit", "mode"))
        # Stopped, and the expressions have a fault.
        stopping = patch_with(helper=("hand", [("k", var("k"))], [("halt", "halt", []), ("work", "work", zero)]))
        self.assertEqual(fits_of(events, 0, stopping)[4], ("misfit", "mode"))
        # Of another kind, and the expressions have a fault.
        spawns_others = Program(NEW.effects, [frozen(actor) for actor in NEW.actors])
        spawns_others.actors[0].handlers[5] = grow("other")
        self.assertEqual(fits_of(events, 0, patch_with(helper=faulty, program=spawns_others))[4], ("misfit", "message"))
        # On, and the expressions have a fault.
        self.assertEqual(fits_of(events, 0, patch_with(helper=faulty))[4], ("misfit", "fault"))

    def test_the_kind_is_that_of_the_moment(self):
        # Both kinds of the history become one kind; their lists differ in what `halt` becomes.
        patch = Patch(NEW, {
            "main": ("shop", [("n", var("n"))], [("grow", "grow", []), ("halt", "add", [num(1)])]),
            "helper": ("hand", [("k", num(3))], [("halt", "work", [num(2)])]), "other": None,
        }, EFFECTS)
        events = [take("grow"), ("deliver", 0), take("halt"), take("halt", path=(0,))]
        self.assertEqual(fits_of(events, 2, patch), [("fits", take("add", 1)), ("fits", take("work", 2, path=(0,)))])


class DeliveryTests(unittest.TestCase):
    def test_origins_whose_indexes_differ(self):
        # `halt` is left out, so that all that waits behind it has another index in the branch.
        patch = patch_with([("halt", None, [])])
        events = [take("halt"), take("add", 1), take("halt"), take("add", 2), ("deliver", 3), ("deliver", 1), ("deliver", 1),
                  ("deliver", 0)]
        self.assertEqual(fits_of(events, 0, patch)[4:], [("fits", ("deliver", 1)), ("fits", ("deliver", 0)),
                                                         ("misfit", "waiting"), ("misfit", "waiting")])
        self.assertEqual(fits_of(events, 4, patch), [("fits", ("deliver", 1)), ("fits", ("deliver", 0)),
                                                     ("misfit", "waiting"), ("misfit", "waiting")])

    def test_messages_that_only_the_branch_has(self):
        events = [take("tell", 1), take("tell", 2), ("deliver", 0), ("deliver", 0), ("deliver", 2), ("deliver", 2)]
        # In the branch each `tell` sends three messages: the second one begins with the number 3.
        self.assertEqual(fits_of(events, 0, patch_with())[2:], [
            ("fits", ("deliver", 0)), ("fits", ("deliver", 0)), ("fits", ("deliver", 2)), ("fits", ("deliver", 2))])
        one = branch(OLD, events, 0, patch_with())
        self.assertEqual([row[3] for row in one.states[-1].waiting], [("sent", (), n) for n in (0, 1, 4, 5)])

    def test_messages_that_only_the_history_has(self):
        patch = patch_with([("tell", "add", [A])])
        events = [take("tell", 1), ("deliver", 0), ("deliver", 1), ("deliver", 0)]
        self.assertEqual(fits_of(events, 0, patch), [("fits", take("add", 1)), ("fits", ("deliver", 0)),
                                                     ("misfit", "waiting"), ("misfit", "waiting")])

    def test_answers_that_wait(self):
        events = [take("pay", 1), ("deliver", 0), take("add", 5), ("answer", 0, 3), ("deliver", 1)]
        patch = patch_with([("add", None, [])])
        self.assertEqual(fits_of(events, 0, patch)[2:], [("misfit", "message"), ("fits", ("answer", 0, 3)),
                                                         ("fits", ("deliver", 0))])


class AnswerTests(unittest.TestCase):
    EVENTS = [take("ring"), take("pay", 5), take("pay", 6), ("deliver", 0), ("deliver", 0), ("deliver", 0)]

    def test_keys_whose_indexes_differ(self):
        events = self.EVENTS + [("answer", 2, 8), ("answer", 0, 7), ("answer", 0, 9)]
        self.assertEqual(fits_of(events, 0, patch_with())[6:], [("fits", event) for event in events[6:]])
        # Without an effect for `ring` its call is left out when the state is converted.
        patch = patch_with(effects=[("pay", "pay", [A])])
        self.assertEqual(fits_of(events, 6, patch), [("fits", ("answer", 1, 8)), ("misfit", "call"), ("fits", ("answer", 0, 9))])

    def test_effects_that_are_not_named(self):
        # The calls are made in the branch as in the history, but the patch does not name their effect.
        events = self.EVENTS + [("answer", 1, 1), ("answer", 0, 1)]
        self.assertEqual(fits_of(events, 0, patch_with(effects=[("ring", "ring", [])]))[6:],
                         [("misfit", "call"), ("fits", ("answer", 0, 1))])

    def test_calls_that_the_branch_does_not_have(self):
        events = self.EVENTS + [("answer", 2, 1)]
        patch = patch_with([("pay", "quiet", [])])
        self.assertEqual(fits_of(events, 0, patch)[6], ("misfit", "call"))

    def test_calls_of_other_effects_and_arguments(self):
        events = self.EVENTS + [("answer", 1, 1)]
        other_arguments = patch_with([("pay", "pay", [("plus", A, num(1))])])
        self.assertEqual(fits_of(events, 0, other_arguments)[6], ("misfit", "call"))
        self.assertEqual(fits_of(events, 6, other_arguments), [("fits", ("answer", 1, 1))])
        more = patch_with([("pay", "pay", [("plus", A, num(1))])], effects=[("pay", "pay", [("plus", A, num(1))])])
        self.assertEqual(fits_of(events, 0, more)[6], ("fits", ("answer", 1, 1)))
        other_effect = patch_with(effects=[("pay", "mail", [A, A]), ("ring", "ring", [])])
        self.assertEqual(fits_of(events, 0, other_effect)[6], ("misfit", "call"))
        self.assertEqual(fits_of(events, 6, other_effect), [("fits", ("answer", 1, 1))])
        # The arguments are the same, the effect is another one.
        swapped = Program(NEW.effects + [("post", 1)], NEW.actors)
        patch = patch_with(effects=[("pay", "post", [A])], program=swapped)
        self.assertEqual(fits_of(events, 0, patch)[6], ("misfit", "call"))

    def test_faults(self):
        events = [take("pay", 0), ("deliver", 0), ("answer", 0, 1)]
        patch = patch_with(effects=[("pay", "pay", [("over", num(1), A)])])
        self.assertEqual(fits_of(events, 0, patch)[2], ("misfit", "call"))

    def test_answers_to_other_handlers(self):
        # An answer fits whatever message it is sent with.
        events = [take("pay", 5), ("deliver", 0), ("answer", 0, 1), ("deliver", 0)]
        patch = patch_with([("add", "pay", [A])])
        one = branch(OLD, events, 2, patch)
        self.assertEqual(one.fits, [("fits", event) for event in events[2:]])
        self.assertEqual(one.states[-1].gone, [(((), 0), "pay", (5,)), (((), 1), "pay", (1,))])


class FactTests(unittest.TestCase):
    def test_patches_that_change_nothing(self):
        exact, others = 0, 0
        for program, events in histories(60, 25):
            states = states_of(program, events)
            for moment in range(len(events) + 1):
                one = branch(program, events, moment, same_patch(program))
                check_parts(program, events, one, moment, one.patch)
                if self.has_nothing_that_is_left_out(program, states[moment]):
                    exact += 1
                    self.assertEqual(one.fits, [("fits", event) for event in events[moment:]])
                    self.assertTrue(all([same_state(a, b) for a, b in zip(one.states, states[moment:])]))
                else:
                    others += 1
        self.assertGreater(exact, 200)
        self.assertGreater(others, 50)

    def has_nothing_that_is_left_out(self, program, state):
        for path, message, arguments, _ in state.waiting:
            being = state.beings.get(path)
            if being is None or being.mode != "on" or handler_of(program, being.kind, message, len(arguments)) is None:
                return False
        for key, _, _, message in state.pending:
            actors = [actor for actor in program.actors if actor.name == state.beings[key[0]].kind]
            if message is not None and message not in [handler[0] for handler in actors[0].handlers]:
                return False
        return True

    def test_any_patches(self):
        fitted, reasons = 0, {}
        for number, (program, events) in enumerate(histories(80, 20)):
            maker = Maker(1000 + number)
            patch = random_patch(maker, program, maker.program())
            moment = maker.dice.randint(0, len(events) // 2)
            try:
                one = branch(program, events, moment, patch)
            except ConversionFault:
                continue
            check_parts(program, events, one, moment, patch)
            fitted += len(branch_events(one))
            reasons.update({told: True for word, told in one.fits if word == "misfit"})
        self.assertGreater(fitted, 20)
        self.assertEqual(sorted(reasons), ["actor", "call", "fault", "message", "mode", "waiting"])

    def test_the_same_call_gives_the_same_branch(self):
        for program, events in histories(5, 10):
            patch = same_patch(program)
            self.assertEqual(attributes(branch(program, events, 2, patch)), attributes(branch(program, events, 2, patch)))


def random_patch(maker, old, new):
    """Return a patch that is as described, from a program to any other one."""
    kinds = {}
    for at, actor in enumerate(old.actors):
        target = new.actors[0] if at == 0 else maker.dice.choice(new.actors)
        names = [name for name, _ in actor.states]
        states = [(name, maker.expression(names, 1)) for name, _ in target.states]
        kinds[actor.name] = (target.name, states, random_rows(
            maker, [(row[0], len(row[1])) for row in actor.handlers], [(row[0], len(row[1])) for row in target.handlers]))
        if at > 0 and maker.dice.random() < 0.2:
            kinds[actor.name] = None
    return Patch(new, kinds, random_rows(maker, old.effects, new.effects))


def random_rows(maker, olds, news):
    rows = []
    for old, many in olds:
        if news and maker.dice.random() < 0.9:
            new, count = maker.dice.choice(news)
            rows.append((old, new, [maker.expression(list("abcd")[:many], 1) for _ in range(count)]))
    return rows


if __name__ == "__main__":
    unittest.main()
