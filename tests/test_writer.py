import unittest

from retroact.program import Actor, Program, is_let_by, same_program
from retroact.reader import read_program
from retroact.writer import write_expression, write_program

from tests.helpers import attributes, frozen, num, program_of, var
from tests.samples import WORDS, Maker, programs

SIGNS = {"plus": "+", "minus": "-", "times": "*", "over": "/", "rest": "rest", "less": "<", "atmost": "<=",
         "same": "=", "and": "and", "or": "or"}
A, B, C = var("a"), var("b"), var("c")


def written(*body, more=(), effects=()):
    """Return the lines of a handler with this body, without the indent of the body."""
    lines = write_program(program_of(list(body), more=more, effects=effects)).split("\n")
    inner = lines[lines.index("  on go") + 1:lines.index("  end")]
    assert all([line.startswith("    ") for line in inner])
    return [line[4:] for line in inner]


class ExpressionTests(unittest.TestCase):
    def check(self, expression, text):
        self.assertEqual(write_expression(expression), text)

    def test_leaves(self):
        self.check(num(0), "0")
        self.check(num(12), "12")
        self.check(num(-12), "-12")
        self.check(num(-1000000000), "-1000000000")
        self.check(A, "a")

    def test_operators_of_two_parts(self):
        for word in WORDS:
            self.check((word, A, num(2)), f"a {SIGNS[word]} 2")

    def test_operators_of_one_part(self):
        self.check(("negative", A), "-a")
        self.check(("not", A), "not a")
        self.check(("not", num(5)), "not 5")
        self.check(("not", num(-5)), "not (-5)")

    def test_the_sign_of_a_number(self):
        self.check(("negative", num(5)), "-(5)")
        self.check(("negative", num(0)), "-(0)")
        self.check(("negative", num(-5)), "-(-5)")

    def test_parts_in_parentheses(self):
        operators = {word: (word, A, B) for word in WORDS}
        operators["negative"], operators["not"], operators["number"] = ("negative", A), ("not", A), num(-1)
        for part in operators.values():
            text = write_expression(part)
            for word in WORDS:
                self.check((word, part, C), f"({text}) {SIGNS[word]} c")
                self.check((word, C, part), f"c {SIGNS[word]} ({text})")
                self.check((word, part, part), f"({text}) {SIGNS[word]} ({text})")
            self.check(("not", part), f"not ({text})")
            self.check(("negative", part), f"-({text})")

    def test_parts_without_parentheses(self):
        for part, text in ((A, "a"), (num(0), "0"), (num(7), "7")):
            self.check(("plus", part, part), f"{text} + {text}")
            self.check(("not", part), f"not {text}")

    def test_nested_parts(self):
        self.check(("plus", ("plus", A, B), ("times", ("not", C), ("negative", ("minus", num(1), num(-2))))),
                   "(a + b) + ((not c) * (-(1 - (-2))))")
        self.check(("negative", ("negative", A)), "-(-a)")
        self.check(("not", ("not", A)), "not (not a)")

    def test_deep_expressions(self):
        left, right = A, A
        for _ in range(200):
            left, right = ("plus", left, B), ("plus", B, right)
        self.check(left, "(" * 199 + "a + b" + ") + b" * 199)
        self.check(right, "b + (" * 199 + "b + a" + ")" * 199)


class StatementTests(unittest.TestCase):
    def test_set_stop_and_fail(self):
        self.assertEqual(written(("set", "n", ("plus", A, num(-1))), ("stop",), ("fail",)),
                         ["set n = a + (-1)", "stop", "fail"])
        self.assertEqual(written(("set", "n", num(-1))), ["set n = -1"])

    def test_if(self):
        self.assertEqual(written(("if", A, [("stop",)], [("fail",)])), ["if a", "  stop", "else", "  fail", "end"])
        self.assertEqual(written(("if", A, [("stop",)], [])), ["if a", "  stop", "end"])
        self.assertEqual(written(("if", A, [], [("fail",)])), ["if a", "else", "  fail", "end"])
        self.assertEqual(written(("if", ("not", A), [], [])), ["if not a", "end"])

    def test_repeat(self):
        self.assertEqual(written(("repeat", num(3), [("stop",)])), ["repeat 3", "  stop", "end"])
        self.assertEqual(written(("repeat", num(-3), [])), ["repeat -3", "end"])

    def test_lists_within_one_another(self):
        inner = ("if", B, [("repeat", num(1), [("stop",)])], [("fail",), ("stop",)])
        self.assertEqual(written(("repeat", num(2), [inner, ("stop",)])), [
            "repeat 2", "  if b", "    repeat 1", "      stop", "    end", "  else", "    fail", "    stop", "  end",
            "  stop", "end",
        ])

    def test_send(self):
        self.assertEqual(written(("send", ("parent",), "tell", [])), ["send parent tell"])
        self.assertEqual(written(("send", ("self",), "tell", [A, num(-1), ("not", A)])), ["send self tell(a, -1, not a)"])
        self.assertEqual(written(("send", ("child", num(0)), "tell", [])), ["send child(0) tell"])
        self.assertEqual(written(("send", ("child", num(-1)), "tell", [])), ["send child(-1) tell"])
        self.assertEqual(written(("send", ("child", ("plus", A, ("negative", B))), "tell", [C])),
                         ["send child(a + (-b)) tell(c)"])

    def test_spawn(self):
        self.assertEqual(written(("spawn", "helper", [], "c")), ["spawn helper as c"])
        self.assertEqual(written(("spawn", "helper", [A, num(2)], "c")), ["spawn helper(a, 2) as c"])

    def test_call(self):
        self.assertEqual(written(("call", "pay", [], None)), ["call pay"])
        self.assertEqual(written(("call", "pay", [], "paid")), ["call pay then paid"])
        self.assertEqual(written(("call", "pay", [A], None)), ["call pay(a)"])
        self.assertEqual(written(("call", "pay", [A, ("minus", A, B)], "paid")), ["call pay(a, a - b) then paid"])


class ProgramTests(unittest.TestCase):
    def test_whole_programs(self):
        program = Program([("pay", 2), ("ring", 0)], [
            Actor("main", [], [("n", num(2)), ("m", ("negative", num(1)))],
                  [("go", [], []), ("add", ["x", "y"], [("stop",)])]),
            Actor("helper", ["p"], [], []),
            Actor("other", ["p", "q"], [], [("go", ["x"], [])]),
        ])
        self.assertEqual(write_program(program), """effect pay 2
effect ring 0
actor main
  state n = 2
  state m = -(1)
  on go
  end
  on add(x, y)
    stop
  end
end
actor helper(p)
end
actor other(p, q)
  on go(x)
  end
end
""")

    def test_smallest_program(self):
        self.assertEqual(write_program(Program([], [Actor("main", [], [], [])])), "actor main\nend\n")

    def test_nothing_is_modified(self):
        program = programs(5)[4]
        kept = attributes(frozen(program))
        self.assertEqual(write_program(program), write_program(program))
        self.assertEqual(attributes(program), kept)

    def test_reading_gives_the_same_program(self):
        for number, program in enumerate(programs(300)):
            self.assertTrue(is_let_by(program), number)
            text = write_program(program)
            found = read_program(text)
            self.assertTrue(same_program(found, program), text)
            self.assertTrue(is_let_by(found))
            self.assertEqual(write_program(found), text)

    def test_reading_gives_the_same_expression(self):
        for seed in range(400):
            expression = Maker(seed).expression(["a", "b"], 6)
            text = f"actor main\non go(a, b)\nset n = {write_expression(expression)}\nend\nend\n"
            self.assertEqual(read_program(text).actors[0].handlers[0][2], [("set", "n", expression)])


if __name__ == "__main__":
    unittest.main()
