import unittest

from retroact.errors import TooLarge
from retroact.program import Actor, Program, is_let_by, same_program
from retroact.reader import read_program

from tests.helpers import num, var


def expression_of(text):
    """Return what the text of an expression over a, b, c and d is read as."""
    program = read_program(f"actor main\non go(a, b, c, d)\nset n = {text}\nend\nend")
    return program.actors[0].handlers[0][2][0][2]


def body_of(*lines):
    """Return what the lines of a handler with the parameters x and y are read as."""
    text = "\n".join(["effect pay 1", "effect ring 0", "actor main", "state n = 1", "on go(x, y)", *lines, "end", "end",
                      "actor helper(p)", "end", "actor plain", "end"])
    return read_program(text).actors[0].handlers[0][2]


class LineTests(unittest.TestCase):
    def test_smallest_program(self):
        self.assertTrue(same_program(read_program("actor main\nend\n"), Program([], [Actor("main", [], [], [])])))

    def test_all_parts(self):
        text = """effect pay 2
effect ring 0
actor main
  state n = 2
  state m = n + 1
  on go
  end
  on add(x, y)
    set n = x
  end
end
actor helper(p, q)
  state n = p - q
end
"""
        program = Program([("pay", 2), ("ring", 0)], [
            Actor("main", [], [("n", num(2)), ("m", ("plus", var("n"), num(1)))],
                  [("go", [], []), ("add", ["x", "y"], [("set", "n", var("x"))])]),
            Actor("helper", ["p", "q"], [("n", ("minus", var("p"), var("q")))], []),
        ])
        found = read_program(text)
        self.assertTrue(same_program(found, program))
        self.assertTrue(is_let_by(found))

    def test_kinds_of_the_parts(self):
        program = read_program("effect pay 1\nactor main\nstate n = 1\non go(x)\nstop\nend\nend")
        self.assertEqual(program.effects, [("pay", 1)])
        self.assertIsInstance(program.actors[0], Actor)
        self.assertEqual(program.actors[0].parameters, [])
        self.assertEqual(program.actors[0].states, [("n", num(1))])
        self.assertEqual(program.actors[0].handlers, [("go", ["x"], [("stop",)])])

    def test_newlines_at_the_end(self):
        program = read_program("actor main\nend")
        for text in ("actor main\nend\n", "actor main\nend\n\n", "actor main\nend\n  \n\n", "\n\nactor main\nend\n  "):
            self.assertTrue(same_program(read_program(text), program), text)

    def test_lines_without_tokens_are_left_out(self):
        plain = "effect pay 0\nactor main\nstate n = 1\non go\nif n\nstop\nelse\nfail\nend\nend\nend"
        spaced = "\n" + plain.replace("\n", "\n\n   \n") + "\n"
        self.assertTrue(same_program(read_program(spaced), read_program(plain)))

    def test_spaces_do_not_matter(self):
        tight = read_program("effect pay 1\nactor main\nstate n=-1\non go(x,y)\ncall pay(n)then done\nend\nend")
        wide = read_program("  effect   pay 1 \nactor main\n state n  =  - 1\non go ( x , y )\ncall pay ( n ) then done\n"
                            "     end\n end ")
        self.assertTrue(same_program(tight, wide))

    def test_statements(self):
        self.assertEqual(body_of("set n = x"), [("set", "n", var("x"))])
        self.assertEqual(body_of("set a = x", "set a = a"), [("set", "a", var("x")), ("set", "a", var("a"))])
        self.assertEqual(body_of("stop", "fail"), [("stop",), ("fail",)])

    def test_if(self):
        self.assertEqual(body_of("if x", "end"), [("if", var("x"), [], [])])
        self.assertEqual(body_of("if x", "stop", "end"), [("if", var("x"), [("stop",)], [])])
        self.assertEqual(body_of("if x", "else", "fail", "end"), [("if", var("x"), [], [("fail",)])])
        self.assertEqual(body_of("if x", "else", "end"), [("if", var("x"), [], [])])
        self.assertEqual(body_of("if x", "stop", "fail", "else", "fail", "stop", "end", "stop"),
                         [("if", var("x"), [("stop",), ("fail",)], [("fail",), ("stop",)]), ("stop",)])

    def test_repeat(self):
        self.assertEqual(body_of("repeat 3", "end"), [("repeat", num(3), [])])
        self.assertEqual(body_of("repeat x + 1", "stop", "end", "fail"),
                         [("repeat", ("plus", var("x"), num(1)), [("stop",)]), ("fail",)])

    def test_lists_within_one_another(self):
        found = body_of("if x", "repeat 2", "if y", "stop", "else", "fail", "end", "set a = 1", "end", "else",
                        "repeat 3", "end", "end", "stop")
        inner = ("repeat", num(2), [("if", var("y"), [("stop",)], [("fail",)]), ("set", "a", num(1))])
        self.assertEqual(found, [("if", var("x"), [inner], [("repeat", num(3), [])]), ("stop",)])

    def test_send(self):
        self.assertEqual(body_of("send parent tell"), [("send", ("parent",), "tell", [])])
        self.assertEqual(body_of("send self tell(x, 2)"), [("send", ("self",), "tell", [var("x"), num(2)])])
        self.assertEqual(body_of("send child(x + 1) tell"),
                         [("send", ("child", ("plus", var("x"), num(1))), "tell", [])])
        self.assertEqual(body_of("send child(0) tell(1, 2, 3, 4)"),
                         [("send", ("child", num(0)), "tell", [num(1), num(2), num(3), num(4)])])

    def test_spawn(self):
        self.assertEqual(body_of("spawn helper(x) as c", "spawn plain as d", "set n = c + d"), [
            ("spawn", "helper", [var("x")], "c"), ("spawn", "plain", [], "d"),
            ("set", "n", ("plus", var("c"), var("d"))),
        ])
        self.assertEqual(body_of("spawn main as c"), [("spawn", "main", [], "c")])

    def test_call(self):
        self.assertEqual(body_of("call pay(x)"), [("call", "pay", [var("x")], None)])
        self.assertEqual(body_of("call pay(x) then go"), [("call", "pay", [var("x")], "go")])
        self.assertEqual(body_of("call ring"), [("call", "ring", [], None)])
        self.assertEqual(body_of("call ring then nobody"), [("call", "ring", [], "nobody")])

    def test_spawned_kinds_may_come_later(self):
        program = read_program("actor main\non go\nspawn last as c\nend\nend\nactor last\nend")
        self.assertEqual(program.actors[0].handlers[0][2], [("spawn", "last", [], "c")])

    def test_each_reading_is_new(self):
        text = "actor main\nstate n = 1\non go\nif n\nend\nend\nend"
        first = read_program(text)
        first.actors[0].handlers[0][2][0][2].append(("stop",))
        first.actors[0].states.clear()
        self.assertEqual(read_program(text).actors[0].handlers, [("go", [], [("if", var("n"), [], [])])])


class ExpressionTests(unittest.TestCase):
    A, B, C, D = var("a"), var("b"), var("c"), var("d")

    def check(self, text, expression):
        self.assertEqual(expression_of(text), expression, text)

    def test_atoms(self):
        self.check("0", num(0))
        self.check("1000000000", num(1000000000))
        self.check("a", self.A)
        self.check("(a)", self.A)
        self.check("(((12)))", num(12))

    def test_operators_of_two_parts(self):
        for sign, word in (("+", "plus"), ("-", "minus"), ("*", "times"), ("/", "over"), (" rest ", "rest"),
                           ("<", "less"), ("<=", "atmost"), ("=", "same"), (" and ", "and"), (" or ", "or")):
            self.check(f"a{sign}b", (word, self.A, self.B))

    def test_turned_comparisons(self):
        self.check("a > b", ("less", self.B, self.A))
        self.check("a >= b", ("atmost", self.B, self.A))
        self.check("a + 1 > b * 2", ("less", ("times", self.B, num(2)), ("plus", self.A, num(1))))

    def test_operators_of_one_line_group_to_the_left(self):
        pairs = (("+", "plus"), ("-", "minus")), (("*", "times"), ("/", "over"), (" rest ", "rest")), \
            ((" and ", "and"),), ((" or ", "or"),)
        for group in pairs:
            for first, word in group:
                for second, other in group:
                    self.check(f"a{first}b{second}c", (other, (word, self.A, self.B), self.C))
                    self.check(f"a{first}(b{second}c)", (word, self.A, (other, self.B, self.C)))
        self.check("a - b - c - d", ("minus", ("minus", ("minus", self.A, self.B), self.C), self.D))

    def test_operators_of_different_lines(self):
        a, b, c = self.A, self.B, self.C
        self.check("a or b and c", ("or", a, ("and", b, c)))
        self.check("a and b or c", ("or", ("and", a, b), c))
        self.check("(a or b) and c", ("and", ("or", a, b), c))
        self.check("a and b = c", ("and", a, ("same", b, c)))
        self.check("a = b and c", ("and", ("same", a, b), c))
        self.check("(a and b) = c", ("same", ("and", a, b), c))
        self.check("a < b + c", ("less", a, ("plus", b, c)))
        self.check("a + b < c", ("less", ("plus", a, b), c))
        self.check("a + (b < c)", ("plus", a, ("less", b, c)))
        self.check("a + b * c", ("plus", a, ("times", b, c)))
        self.check("a * b + c", ("plus", ("times", a, b), c))
        self.check("a * (b + c)", ("times", a, ("plus", b, c)))
        self.check("a - b rest c", ("minus", a, ("rest", b, c)))
        self.check("(a < b) < c", ("less", ("less", a, b), c))

    def test_not(self):
        a, b = self.A, self.B
        self.check("not a", ("not", a))
        self.check("not not a", ("not", ("not", a)))
        self.check("not a = b", ("not", ("same", a, b)))
        self.check("(not a) = b", ("same", ("not", a), b))
        self.check("not a and b", ("and", ("not", a), b))
        self.check("not a or not b", ("or", ("not", a), ("not", b)))
        self.check("a and not b", ("and", a, ("not", b)))
        self.check("not (a or b)", ("not", ("or", a, b)))
        self.check("a = (not b)", ("same", a, ("not", b)))

    def test_minus_ahead_of_a_number(self):
        self.check("-5", num(-5))
        self.check("- 5", num(-5))
        self.check("-0", num(0))
        self.check("-1000000000", num(-1000000000))
        self.check("a--5", ("minus", self.A, num(-5)))
        self.check("a -5", ("minus", self.A, num(5)))
        self.check("-5 - 6", ("minus", num(-5), num(6)))
        self.check("2 * -3", ("times", num(2), num(-3)))
        self.check("-2 rest 3", ("rest", num(-2), num(3)))

    def test_minus_ahead_of_others(self):
        self.check("-a", ("negative", self.A))
        self.check("- -a", ("negative", ("negative", self.A)))
        self.check("--5", ("negative", num(-5)))
        self.check("---5", ("negative", ("negative", num(-5))))
        self.check("-(5)", ("negative", num(5)))
        self.check("-(a + b)", ("negative", ("plus", self.A, self.B)))
        self.check("-a * b", ("times", ("negative", self.A), self.B))
        self.check("a - -b", ("minus", self.A, ("negative", self.B)))
        self.check("-a + b", ("plus", ("negative", self.A), self.B))
        self.check("not -a", ("not", ("negative", self.A)))

    def test_parentheses_leave_no_trace(self):
        self.check("((a) + (b))", ("plus", self.A, self.B))
        self.check("(-5)", num(-5))
        self.check("((a + b)) * c", ("times", ("plus", self.A, self.B), self.C))

    def test_long_rows(self):
        row = expression_of(" + ".join(["a"] * 4000))
        depth = 1
        while row[0] == "plus":
            row, depth = row[1], depth + 1
        self.assertEqual(depth, 4000)


class TextSizeTests(unittest.TestCase):
    def test_most_characters(self):
        text = "actor main\nend"
        padded = text + " " * (20000 - len(text))
        self.assertTrue(same_program(read_program(padded), read_program(text)))
        with self.assertRaises(TooLarge) as caught:
            read_program(padded + " ")
        self.assertEqual(caught.exception.limit, "text")

    def test_newlines_are_characters(self):
        text = "actor main\nend" + "\n" * (20000 - len("actor main\nend"))
        self.assertEqual(len(read_program(text).actors), 1)
        with self.assertRaises(TooLarge):
            read_program(text + "\n")

    def test_size_comes_ahead_of_other_errors(self):
        with self.assertRaises(TooLarge):
            read_program("?" * 20001)


if __name__ == "__main__":
    unittest.main()
