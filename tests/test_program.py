import unittest

from retroact.names import KEY_WORDS
from retroact.program import Actor, Program, is_let_by, same_program

from tests.helpers import attributes, frozen, num, program_of, var

TOP = 1000000000
STOP = ("stop",)
LETTERS = "abcdefghijklmnopqrstuvwxyz"


def is_body_let_by(body, parameters=("x",), states=(("n", ("number", 0)),), more=(), effects=()):
    return is_let_by(program_of(body, parameters, states, more, effects))


def main_of(states=(), handlers=()):
    return Program([], [Actor("main", [], list(states), list(handlers))])


def with_helper(parameters, states=()):
    return Program([], [Actor("main", [], [], []), Actor("helper", list(parameters), list(states), [])])


class ClassTests(unittest.TestCase):
    def test_attributes(self):
        actor = Actor(name="a", parameters=["x"], states=[("n", num(1))], handlers=[("go", [], [])])
        self.assertEqual(vars(actor), {
            "name": "a", "parameters": ["x"], "states": [("n", num(1))], "handlers": [("go", [], [])],
        })
        program = Program(effects=[("pay", 1)], actors=[actor])
        self.assertEqual((program.effects, program.actors), ([("pay", 1)], [actor]))

    def test_lists_are_copied_but_not_what_is_in_them(self):
        parameters, states, handlers, body = ["x"], [("n", num(1))], [], [STOP]
        handlers.append(("go", [], body))
        actor = Actor("a", parameters, states, handlers)
        parameters.append("y")
        states.append(("m", num(2)))
        handlers.append(("run", [], []))
        self.assertEqual((actor.parameters, actor.states, len(actor.handlers)), (["x"], [("n", num(1))], 1))
        self.assertIs(actor.handlers[0][2], body)
        effects, actors = [("pay", 1)], [actor]
        program = Program(effects, actors)
        effects.clear()
        actors.clear()
        self.assertEqual(program.effects, [("pay", 1)])
        self.assertIs(program.actors[0], actor)


class SameProgramTests(unittest.TestCase):
    def setUp(self):
        self.handler = ("go", ["x"], [("if", var("x"), [STOP], [("set", "n", num(1))])])

    def program(self, effects=(("pay", 1),), name="helper", parameters=("p",), states=(("n", num(1)),), handlers=None):
        handlers = [self.handler] if handlers is None else handlers
        return Program(list(effects), [Actor("main", [], [], []), Actor(name, list(parameters), list(states), handlers)])

    def test_equal_programs(self):
        self.assertIs(same_program(self.program(), self.program()), True)
        self.assertIs(same_program(Program([], []), Program([], [])), True)

    def test_each_part_that_may_differ(self):
        others = [
            self.program(effects=[("pay", 2)]), self.program(effects=[("paid", 1)]), self.program(effects=[]),
            self.program(effects=[("pay", 1), ("mail", 0)]), self.program(name="other"),
            self.program(parameters=["q"]), self.program(parameters=[]), self.program(parameters=["p", "q"]),
            self.program(states=[("m", num(1))]), self.program(states=[("n", num(2))]), self.program(states=[]),
            self.program(handlers=[]), self.program(handlers=[self.handler, ("run", [], [])]),
            self.program(handlers=[("run", *self.handler[1:])]),
            self.program(handlers=[("go", ["y"], self.handler[2])]),
            self.program(handlers=[("go", ["x"], [("if", var("x"), [STOP], [])])]),
            Program([("pay", 1)], self.program().actors[:1]),
            Program([("pay", 1)], self.program().actors[::-1]),
            Program([("pay", 1)], self.program().actors + [Actor("more", [], [], [])]),
        ]
        for number, other in enumerate(others):
            self.assertIs(same_program(self.program(), other), False, number)
            self.assertIs(same_program(other, self.program()), False, number)

    def test_order_of_effects_counts(self):
        one, other = [("pay", 1), ("mail", 1)], [("mail", 1), ("pay", 1)]
        self.assertFalse(same_program(self.program(effects=one), self.program(effects=other)))

    def test_nothing_is_modified(self):
        one, other = self.program(), self.program(name="other")
        kept = attributes(frozen([one, other]))
        same_program(one, other)
        self.assertEqual(attributes([one, other]), kept)


class NameTests(unittest.TestCase):
    GOOD = ["a", "z", "abcdefghijkl", "effects", "nots", "main", "value", LETTERS[13:25]]
    BAD = list(KEY_WORDS) + ["", "abcdefghijklm", "A", "aB", "a1", "a_b", "a b", " a", "\u00e9", "a-", "a\n"]

    def everywhere(self, name):
        """Yield a program for each place at which a name may stand, and a word for the place."""
        yield "effect", Program([(name, 0)], [Actor("first", [], [], [])])
        yield "actor", Program([], [Actor(name, [], [], [])])
        yield "parameter of an actor", Program([], [Actor("first", [], [], []), Actor("second", [name], [], [])])
        yield "state", main_of([(name, num(0))])
        yield "message", main_of([], [(name, [], [])])
        yield "parameter", main_of([], [("go", [name], [])])
        yield "set", main_of([], [("go", [], [("set", name, num(0))])])
        yield "spawn", main_of([], [("go", [], [("spawn", "main", [], name)])])
        yield "send", main_of([], [("go", [], [("send", ("self",), name, [])])])
        yield "then", Program([("tell", 0)], [Actor("first", [], [], [("go", [], [("call", "tell", [], name)])])])

    def test_names(self):
        for name in self.GOOD:
            for place, program in self.everywhere(name):
                self.assertIs(is_let_by(program), True, (place, name))

    def test_no_names(self):
        for name in self.BAD:
            for place, program in self.everywhere(name):
                self.assertIs(is_let_by(program), False, (place, name))

    def test_key_words(self):
        words = "effect actor state on set if else end repeat send parent self child spawn as call then stop fail"
        self.assertEqual(sorted(KEY_WORDS), sorted((words + " and or not rest").split()))


class DifferentNamesTests(unittest.TestCase):
    def test_effects(self):
        self.assertTrue(is_let_by(Program([("pay", 1), ("mail", 1)], [Actor("main", [], [], [])])))
        self.assertFalse(is_let_by(Program([("pay", 1), ("pay", 2)], [Actor("main", [], [], [])])))
        self.assertTrue(is_let_by(Program([("main", 1)], [Actor("main", [], [], [])])))

    def test_actors(self):
        self.assertTrue(is_let_by(Program([], [Actor("a", [], [], []), Actor("b", [], [], [])])))
        self.assertFalse(is_let_by(Program([], [Actor("a", [], [], []), Actor("a", [], [], [])])))
        self.assertFalse(is_let_by(Program([], [Actor(name, [], [], []) for name in "aba"])))

    def test_messages(self):
        self.assertTrue(is_let_by(main_of([], [("a", [], []), ("b", [], [])])))
        self.assertFalse(is_let_by(main_of([], [("a", [], []), ("a", ["x"], [])])))
        other = Actor("other", [], [], [("a", [], [])])
        self.assertTrue(is_let_by(Program([], [Actor("main", [], [], [("a", [], [])]), other])))

    def test_parameters_and_states_of_an_actor(self):
        self.assertTrue(is_let_by(with_helper(["a", "b"], [("c", num(0)), ("d", num(0))])))
        self.assertFalse(is_let_by(with_helper(["a", "a"])))
        self.assertFalse(is_let_by(with_helper([], [("c", num(0)), ("c", num(0))])))
        self.assertFalse(is_let_by(with_helper(["a"], [("a", num(0))])))

    def test_parameters_of_a_handler(self):
        self.assertTrue(is_let_by(main_of([], [("go", ["a", "b"], [])])))
        self.assertFalse(is_let_by(main_of([], [("go", ["a", "a"], [])])))
        self.assertTrue(is_let_by(main_of([("n", num(0))], [("go", ["n"], [])])))
        self.assertTrue(is_let_by(main_of([], [("go", ["a"], []), ("run", ["a"], [])])))
        program = with_helper(["p"])
        program.actors[1].handlers.append(("go", ["p"], []))
        self.assertTrue(is_let_by(program))

    def test_the_main_actor_has_no_parameters(self):
        self.assertTrue(is_let_by(Program([], [Actor("main", [], [], []), Actor("b", ["x"], [], [])])))
        self.assertFalse(is_let_by(Program([], [Actor("main", ["x"], [], []), Actor("b", [], [], [])])))


class ExpressionTests(unittest.TestCase):
    def everywhere(self, expression):
        """Yield a program for each place at which an expression may stand in the main actor."""
        yield main_of([("n", num(0)), ("m", expression)])
        bodies = [
            [("set", "m", expression)], [("if", expression, [], [])], [("repeat", expression, [])],
            [("send", ("child", expression), "go", [])], [("send", ("self",), "go", [num(1), expression])],
            [("spawn", "helper", [expression], "c")], [("call", "pay", [expression], None)],
            [("if", num(1), [("set", "m", expression)], [])], [("if", num(1), [], [("set", "m", expression)])],
            [("repeat", num(1), [("set", "m", expression)])],
        ]
        for body in bodies:
            yield program_of(body, states=[("n", num(0))], more=[Actor("helper", ["p"], [], [])], effects=[("pay", 1)])

    def test_numbers_are_values(self):
        for n in (0, TOP, -TOP):
            for at, program in enumerate(self.everywhere(num(n))):
                self.assertTrue(is_let_by(program), (n, at))
        for n in (TOP + 1, -TOP - 1):
            for at, program in enumerate(self.everywhere(num(n))):
                self.assertFalse(is_let_by(program), (n, at))

    def test_names_are_known(self):
        for at, program in enumerate(self.everywhere(var("n"))):
            self.assertTrue(is_let_by(program), at)
        for at, program in enumerate(self.everywhere(var("y"))):
            self.assertFalse(is_let_by(program), at)

    def test_every_part_of_an_expression_is_looked_at(self):
        good, bad = var("x"), var("y")
        for word in ("plus", "minus", "times", "over", "rest", "less", "atmost", "same", "and", "or"):
            self.assertTrue(is_body_let_by([("set", "n", (word, good, good))]))
            self.assertFalse(is_body_let_by([("set", "n", (word, good, bad))]))
            self.assertFalse(is_body_let_by([("set", "n", (word, bad, good))]))
            self.assertFalse(is_body_let_by([("set", "n", (word, good, num(TOP + 1)))]))
        for word in ("negative", "not"):
            self.assertTrue(is_body_let_by([("set", "n", (word, good))]))
            self.assertFalse(is_body_let_by([("set", "n", (word, bad))]))
            self.assertFalse(is_body_let_by([("set", "n", (word, ("not", num(-TOP - 1))))]))

    def test_states_use_parameters_and_earlier_states(self):
        self.assertTrue(is_let_by(with_helper(["p"], [("a", var("p")), ("b", ("plus", var("a"), var("p")))])))
        self.assertFalse(is_let_by(with_helper(["p"], [("a", var("b")), ("b", num(0))])))
        self.assertFalse(is_let_by(with_helper(["p"], [("a", var("a"))])))
        self.assertFalse(is_let_by(with_helper(["p"], [("a", var("q"))])))

    def test_handlers_do_not_know_the_parameters_of_the_actor(self):
        program = with_helper(["p"])
        program.actors[1].handlers.append(("go", [], [("set", "n", var("p"))]))
        self.assertFalse(is_let_by(program))

    def test_parameters_of_other_handlers_are_not_known(self):
        body = [("set", "n", var("y"))]
        self.assertFalse(is_let_by(main_of([("n", num(0))], [("go", ["y"], []), ("run", ["x"], body)])))
        self.assertTrue(is_let_by(main_of([("n", num(0))], [("go", ["x"], []), ("run", ["y"], body)])))

    def test_states_of_other_actors_are_not_known(self):
        program = with_helper([], [("m", num(0))])
        program.actors[0].handlers.append(("go", [], [("set", "n", var("m"))]))
        self.assertFalse(is_let_by(program))


class OrderOfNamesTests(unittest.TestCase):
    def test_set(self):
        self.assertTrue(is_body_let_by([("set", "a", num(1)), ("set", "b", var("a"))]))
        self.assertFalse(is_body_let_by([("set", "b", var("a")), ("set", "a", num(1))]))
        self.assertFalse(is_body_let_by([("set", "a", var("a"))]))
        self.assertTrue(is_body_let_by([("set", "a", num(1)), ("set", "a", var("a"))]))

    def test_locals_of_other_handlers_are_not_known(self):
        first, second = ("go", [], [("set", "a", num(1))]), ("run", [], [("set", "b", var("a"))])
        self.assertFalse(is_let_by(main_of([], [first, second])))

    def test_spawn(self):
        more = [Actor("helper", ["p"], [], [])]
        spawn = ("spawn", "helper", [num(1)], "c")
        self.assertTrue(is_body_let_by([spawn, ("set", "b", var("c"))], more=more))
        self.assertTrue(is_body_let_by([spawn, ("send", ("child", var("c")), "go", [])], more=more))
        self.assertFalse(is_body_let_by([("set", "b", var("c")), spawn], more=more))
        self.assertFalse(is_body_let_by([("spawn", "helper", [var("c")], "c")], more=more))

    def test_lists_come_ahead_of_what_follows(self):
        setting, using = ("set", "a", num(1)), ("set", "b", var("a"))
        self.assertTrue(is_body_let_by([("if", num(1), [setting], []), using]))
        self.assertTrue(is_body_let_by([("if", num(1), [], [setting]), using]))
        self.assertTrue(is_body_let_by([("if", num(1), [setting], [using])]))
        self.assertFalse(is_body_let_by([("if", num(1), [using], [setting])]))
        self.assertTrue(is_body_let_by([("repeat", num(1), [setting]), using]))
        self.assertFalse(is_body_let_by([("repeat", num(1), [using, setting])]))
        self.assertFalse(is_body_let_by([("repeat", var("a"), [setting])]))
        self.assertFalse(is_body_let_by([("if", var("a"), [setting], [])]))
        inner = ("if", num(1), [("repeat", num(2), [setting])], [using])
        self.assertTrue(is_body_let_by([("if", num(1), [inner, using], [using]), using]))
        self.assertFalse(is_body_let_by([using, ("if", num(1), [inner], [])]))

    def test_names_that_are_given(self):
        self.assertTrue(is_body_let_by([("set", "n", num(1))]))
        self.assertFalse(is_body_let_by([("set", "x", num(1))]))
        self.assertTrue(is_body_let_by([("set", "x", num(1))], parameters=["y"]))
        self.assertTrue(is_body_let_by([("spawn", "main", [], "c"), ("spawn", "main", [], "c")]))
        self.assertFalse(is_body_let_by([("spawn", "main", [], "x")]))
        self.assertFalse(is_body_let_by([("spawn", "main", [], "n")]))
        self.assertFalse(is_body_let_by([("repeat", num(1), [("set", "x", num(1))])]))
        self.assertTrue(is_body_let_by([("set", "c", num(1)), ("spawn", "main", [], "c")]))


class TargetTests(unittest.TestCase):
    def test_effects_of_calls(self):
        for count in range(5):
            effects = [("mail", 0), ("pay", count)]
            for given in range(5):
                body = [("call", "pay", [num(1)] * given, "done")]
                self.assertIs(is_body_let_by(body, effects=effects), given == count)
        self.assertFalse(is_body_let_by([("call", "pay", [], None)]))
        self.assertFalse(is_body_let_by([("call", "main", [], None)]))
        self.assertTrue(is_body_let_by([("call", "pay", [], None)], effects=[("pay", 0)]))

    def test_kinds_of_spawns(self):
        for count in range(5):
            more = [Actor("helper", list(LETTERS[:count]), [], [])]
            for given in range(5):
                body = [("spawn", "helper", [num(1)] * given, "c")]
                self.assertIs(is_body_let_by(body, more=more), given == count)
        self.assertFalse(is_body_let_by([("spawn", "helper", [], "c")]))
        self.assertFalse(is_body_let_by([("spawn", "pay", [], "c")], effects=[("pay", 0)]))

    def test_messages_need_no_handler(self):
        self.assertTrue(is_body_let_by([("send", ("parent",), "nobody", [num(1)] * 4)]))
        self.assertTrue(is_body_let_by([("call", "pay", [], "nobody")], effects=[("pay", 0)]))


class LimitTests(unittest.TestCase):
    def test_actors(self):
        for many in range(8):
            program = Program([], [Actor(name, [], [], []) for name in LETTERS[:many]])
            self.assertIs(is_let_by(program), 1 <= many <= 6, many)

    def test_effects(self):
        for many in (0, 6, 7):
            program = Program([(name, 0) for name in LETTERS[:many]], [Actor("main", [], [], [])])
            self.assertIs(is_let_by(program), many <= 6, many)

    def test_arguments_of_effects(self):
        for count in (-1, 0, 4, 5):
            program = Program([("pay", count)], [Actor("main", [], [], [])])
            self.assertIs(is_let_by(program), 0 <= count <= 4, count)

    def test_handlers_and_states(self):
        for many in (8, 9):
            self.assertIs(is_let_by(main_of([], [(name, [], []) for name in LETTERS[:many]])), many == 8)
        for many in (10, 11):
            self.assertIs(is_let_by(main_of([(name, num(0)) for name in LETTERS[:many]])), many == 10)

    def test_limits_hold_for_each_actor_alone(self):
        handlers = [(name, [], []) for name in LETTERS[:8]]
        states = [(name, num(0)) for name in LETTERS[:10]]
        actors = [Actor("a", [], states, handlers), Actor("b", [], states, handlers)]
        self.assertTrue(is_let_by(Program([], actors)))
        actors[1].states.append(("last", num(0)))
        self.assertFalse(is_let_by(Program([], actors)))

    def test_parameters(self):
        for many in (4, 5):
            self.assertIs(is_let_by(with_helper(LETTERS[:many])), many == 4)
            self.assertIs(is_let_by(main_of([], [("go", list(LETTERS[:many]), [])])), many == 4)

    def test_arguments(self):
        for many in (4, 5):
            self.assertIs(is_body_let_by([("send", ("self",), "go", [num(0)] * many)]), many == 4)
            self.assertIs(is_body_let_by([("send", ("child", num(0)), "go", [num(0)] * many)]), many == 4)

    def test_statements_are_counted_in_all_lists(self):
        for many in (60, 61):
            self.assertIs(is_body_let_by([STOP] * many), many == 60)
            inner = [STOP] * (many - 31)
            self.assertIs(is_body_let_by([("if", num(1), [STOP] * 10, [STOP] * 20), *inner]), many == 60)
            self.assertIs(is_body_let_by([("repeat", num(1), [STOP] * (many - 1))]), many == 60)
        self.assertTrue(is_let_by(main_of([], [("go", [], [STOP] * 60), ("run", [], [STOP] * 60)])))

    def nested(self, words):
        body = []
        for word in words[::-1]:
            if word == "if":
                body = [("if", num(1), body, [])]
            elif word == "else":
                body = [("if", num(1), [], body)]
            else:
                body = [("repeat", num(1), body)]
        return body

    def test_depth_of_lists(self):
        for word in ("if", "else"):
            self.assertTrue(is_body_let_by(self.nested([word] * 4)))
            self.assertFalse(is_body_let_by(self.nested([word] * 5)))
        self.assertTrue(is_body_let_by(self.nested(["if", "repeat", "else", "repeat"])))
        self.assertFalse(is_body_let_by(self.nested(["if", "repeat", "else", "repeat", "if"])))
        self.assertFalse(is_body_let_by(self.nested(["if", "repeat", "else", "if", "repeat"])))
        self.assertTrue(is_body_let_by(self.nested(["if"] * 4) + self.nested(["else"] * 4)))
        self.assertFalse(is_body_let_by([STOP] + self.nested(["if"] * 5)))

    def test_repeats_within_one_another(self):
        self.assertTrue(is_body_let_by(self.nested(["repeat"] * 2)))
        self.assertFalse(is_body_let_by(self.nested(["repeat"] * 3)))
        self.assertTrue(is_body_let_by(self.nested(["repeat", "if", "repeat", "else"])))
        self.assertFalse(is_body_let_by(self.nested(["repeat", "if", "repeat", "repeat"])))
        self.assertFalse(is_body_let_by(self.nested(["repeat", "repeat", "else", "repeat"])))
        one = self.nested(["repeat", "repeat"])
        self.assertTrue(is_body_let_by(one + one + one))
        self.assertTrue(is_body_let_by([("repeat", num(1), self.nested(["repeat"]) * 3)]))

    def test_every_actor_and_handler_is_looked_at(self):
        bad = ("go", [], [("set", "n", var("unknown"))])
        good = ("run", [], [("set", "n", num(1))])
        self.assertFalse(is_let_by(main_of([], [good, bad])))
        self.assertFalse(is_let_by(main_of([], [bad, good])))
        first = Actor("first", [], [], [good])
        self.assertFalse(is_let_by(Program([], [first, Actor("second", [], [], [bad])])))
        self.assertTrue(is_let_by(Program([], [first, Actor("second", [], [], [good])])))

    def test_nothing_is_modified(self):
        body = [("if", var("x"), [("set", "a", num(1))], [STOP]), ("send", ("child", var("a")), "go", [var("x")])]
        program = program_of(body, ["x"], [("n", num(1))])
        kept = attributes(frozen(program))
        self.assertTrue(is_let_by(program))
        self.assertTrue(is_let_by(program))
        self.assertEqual(attributes(program), kept)


if __name__ == "__main__":
    unittest.main()
