import unittest

from retroact.reader import read_program

from tests.helpers import text_error

HEAD = ["effect pay 1", "effect ring 0", "actor main", "state n = 1", "on go(x, y)"]
TAIL = ["end", "end", "actor helper(p)", "end"]
LETTERS = "abcdefghijklmnopqrstuvwxyz"


def error_of(*lines):
    """Return the error of the text that consists of the lines."""
    return text_error(read_program, "\n".join(lines))


def body_error(*lines):
    """Return the error of the lines in a handler, numbered from 1 at the first of them."""
    found = error_of(*HEAD, *lines, *TAIL)
    return found and (found[0] - len(HEAD), found[1], found[2])


def line_error(line):
    """Return the column and the reason of the error of one line in a handler."""
    found = body_error(line)
    return found and found[1:]


def expression_error(text):
    """Return the column, counted from 1 in the text, and the reason of the error of an expression over x, y, n."""
    found = line_error("set n = " + text)
    return found and (found[0] - len("set n = "), found[1])


class TokenErrorTests(unittest.TestCase):
    def test_lines_and_columns(self):
        self.assertEqual(error_of("?", "actor main", "end"), (1, 1, "character"))
        self.assertEqual(error_of("actor main", "", "  end ?"), (3, 7, "character"))
        self.assertEqual(body_error("stop", "set abcdefghijklm = 1"), (2, 5, "word"))
        self.assertEqual(body_error("set n = 1 + 01"), (1, 13, "number"))
        self.assertEqual(error_of("\tactor main", "end"), (1, 1, "character"))
        self.assertEqual(error_of("actor main\r", "end"), (1, 11, "character"))

    def test_tokens_come_ahead_of_the_line(self):
        self.assertEqual(error_of("foo bar ?"), (1, 9, "character"))
        self.assertEqual(body_error("set rest = 01"), (1, 12, "number"))

    def test_an_earlier_line_comes_first(self):
        self.assertEqual(body_error("set n = z", "?"), (1, 9, "unknown"))
        self.assertEqual(body_error("?", "set n = z"), (1, 1, "character"))
        self.assertEqual(error_of("foo", "?"), (1, 1, "line"))


class LineErrorTests(unittest.TestCase):
    WORDS = ("effect", "actor", "state", "on", "set", "if", "else", "end", "repeat", "send", "spawn", "call", "stop",
             "fail", "parent", "self", "child", "as", "then", "and", "or", "not", "rest", "foo", "12", "=", "(", "-")

    def check(self, before, allowed):
        for word in self.WORDS:
            found = error_of(*before, "  " + word + " ,")
            reason = None if found is None else found[2]
            self.assertEqual(found[:2] == (len(before) + 1, 3) and reason == "line", word not in allowed, (before, word))

    def test_words_that_can_stand(self):
        body = ("set", "if", "repeat", "send", "spawn", "call", "stop", "fail", "end")
        self.check([], ("effect", "actor"))
        self.check(["effect pay 1"], ("effect", "actor"))
        self.check(["actor main"], ("state", "on", "end"))
        self.check(["actor main", "state n = 1"], ("state", "on", "end"))
        self.check(["actor main", "on go"], body)
        self.check(["actor main", "on go", "stop"], body)
        self.check(["actor main", "on go", "if 1"], body + ("else",))
        self.check(["actor main", "on go", "if 1", "stop"], body + ("else",))
        self.check(["actor main", "on go", "if 1", "else"], body)
        self.check(["actor main", "on go", "if 1", "end"], body)
        self.check(["actor main", "on go", "repeat 1"], body)
        self.check(["actor main", "on go", "if 1", "repeat 1"], body)
        self.check(["actor main", "on go", "if 1", "repeat 1", "end"], body + ("else",))
        self.check(["actor main", "on go", "if 1", "else", "if 1"], body + ("else",))
        self.check(["actor main", "on go", "if 1", "if 1", "else", "end"], body + ("else",))
        self.check(["actor main", "on go", "end"], ("on", "end"))
        self.check(["actor main", "end"], ("actor",))
        self.check(["actor main", "state n = 1", "on go", "end", "end"], ("actor",))

    def test_the_line_comes_ahead_of_its_tokens(self):
        self.assertEqual(error_of("actor main", "end", "effect"), (3, 1, "line"))
        self.assertEqual(error_of("  end end"), (1, 3, "line"))


class ExpectedTests(unittest.TestCase):
    def check(self, cases, find):
        for line, column in cases:
            self.assertEqual(find(line), (column, "expected"), line)

    def test_effect_lines(self):
        cases = (("effect", 7), ("effect ", 8), ("effect 1", 8), ("effect send 1", 8), ("effect pay", 11),
                 ("effect pay x", 12), ("effect pay -1", 12), ("effect pay 1 2", 14), ("effect pay(1)", 11))
        self.check(cases, lambda line: error_of(line, "actor main", "end")[1:])

    def test_actor_lines(self):
        cases = (("actor", 6), ("actor 1", 7), ("actor on", 7), ("actor a b", 9), ("actor a()", 9), ("actor a(", 9),
                 ("actor a(p", 10), ("actor a(p,", 11), ("actor a(p q)", 11), ("actor a(p,)", 11), ("actor a(1)", 9),
                 ("actor a(p))", 11), ("actor a(p) x", 12), ("actor a)", 8), ("actor a(rest)", 9), ("actor a((p))", 9))
        self.check(cases, lambda line: error_of("actor main", "end", line, "end")[1:])

    def test_the_main_actor_has_no_parameters(self):
        self.assertEqual(error_of("actor main(x)", "end"), (1, 11, "expected"))
        self.assertEqual(error_of("actor main ( x )", "end"), (1, 12, "expected"))

    def test_state_lines(self):
        cases = (("state", 6), ("state 1 = 1", 7), ("state if = 1", 7), ("state n", 8), ("state n 1", 9),
                 ("state n =", 10), ("state n = )", 11), ("state n = 1 2", 13), ("state n <= 1", 9))
        self.check(cases, lambda line: error_of("actor main", line, "end")[1:])

    def test_handler_lines(self):
        cases = (("on", 3), ("on 1", 4), ("on on", 4), ("on a b", 6), ("on a()", 6), ("on a(x", 7), ("on a(x,", 8),
                 ("on a(x y)", 8), ("on a(x,not)", 8), ("on a(x) y", 9), ("on a(x+y)", 7))
        self.check(cases, lambda line: error_of("actor main", line, "end", "end")[1:])

    def test_end_and_else(self):
        self.assertEqual(error_of("actor main", "end end"), (2, 5, "expected"))
        self.assertEqual(error_of("actor main", "on go", "end 1", "end"), (3, 5, "expected"))
        self.assertEqual(body_error("if x", "else x", "end"), (2, 6, "expected"))
        self.assertEqual(body_error("if x", "end (", "stop"), (2, 5, "expected"))

    def test_set_if_and_repeat(self):
        cases = (("set", 4), ("set 1 = 1", 5), ("set end = 1", 5), ("set n", 6), ("set n 1", 7), ("set n =", 8),
                 ("set n =  ", 10), ("set n = 1 1", 11), ("set n = x y", 11), ("set n == 1", 8), ("if", 3), ("if x y", 6),
                 ("if )", 4), ("if x then", 6), ("repeat", 7), ("repeat 3 x", 10), ("repeat =", 8), ("stop x", 6),
                 ("fail (", 6))
        self.check(cases, line_error)

    def test_send(self):
        cases = (("send", 5), ("send go", 6), ("send 1", 6), ("send main go", 6), ("send parent", 12), ("send self", 10),
                 ("send child", 11), ("send child 1 go", 12), ("send child()", 12), ("send child(1", 13),
                 ("send child(1)", 14), ("send child(1, 2) go", 13), ("send child(1) 2", 15), ("send self on", 11),
                 ("send self go()", 14), ("send self go(", 14), ("send self go(1", 15), ("send self go(1,)", 16),
                 ("send self go(1 2)", 16), ("send self go(1) 2", 17), ("send self go 2", 14), ("send self(1) go", 10))
        self.check(cases, line_error)

    def test_spawn(self):
        cases = (("spawn", 6), ("spawn 1 as c", 7), ("spawn self as c", 7), ("spawn helper", 13), ("spawn helper(1)", 16),
                 ("spawn helper() as c", 14), ("spawn helper(1) c", 17), ("spawn helper(1) as", 19),
                 ("spawn helper(1) as 2", 20), ("spawn helper(1) as as", 20), ("spawn helper(1) as c d", 22),
                 ("spawn helper(1", 15), ("spawn helper then c", 14))
        self.check(cases, line_error)

    def test_call(self):
        cases = (("call", 5), ("call 1", 6), ("call then", 6), ("call pay()", 10), ("call pay(1", 11), ("call pay(1) x", 13),
                 ("call pay(1) then", 17), ("call pay(1) then 1", 18), ("call pay(1) then end", 18),
                 ("call pay(1) then go x", 21), ("call pay(1) as c", 13), ("call pay(1,)", 12))
        self.check(cases, line_error)

    def test_expressions(self):
        cases = (("", 1), ("+", 1), ("1 +", 4), ("1 -", 4), ("1 *", 4), ("1 /", 4), ("1 rest", 7), ("1 and", 6),
                 ("1 or", 5), ("1 <", 4), ("not", 4), ("-", 2), ("(", 2), ("(1", 3), ("(1 2)", 4), ("()", 2), (")", 1),
                 ("1)", 2), ("x < y < n", 7), ("x = y = n", 7), ("x > y >= n", 7), ("x + not y", 5), ("x < not y", 5),
                 ("-not x", 2), ("* 2", 1), ("x + + y", 5), ("x < = y", 5), ("x and and y", 7), ("x not y", 3),
                 ("then", 1), ("x + end", 5), ("x, y", 2), ("x(1)", 2), ("(x, y)", 3), ("x = (y = n) = 1", 13),
                 ("1 (2)", 3), ("x => y", 4))
        self.check(cases, expression_error)


class NameErrorTests(unittest.TestCase):
    def test_effects_twice(self):
        self.assertEqual(error_of("effect pay 1", "effect mail 1", " effect pay 2", "actor main", "end"), (3, 9, "twice"))
        self.assertEqual(error_of("effect pay 1", "effect pay"), (2, 8, "twice"))

    def test_actors_twice(self):
        self.assertEqual(error_of("actor main", "end", "actor main", "end"), (3, 7, "twice"))
        self.assertEqual(error_of("actor main", "end", "actor a", "end", "actor main(", "end"), (5, 7, "twice"))
        self.assertEqual(error_of("actor main", "end", "actor a(p, q, p)", "end"), (3, 15, "twice"))
        self.assertEqual(error_of("actor main", "end", "actor a(p, p", "end"), (3, 12, "twice"))

    def test_states_twice(self):
        self.assertEqual(error_of("actor main", "state n = 1", "state n = 2", "end"), (3, 7, "twice"))
        self.assertEqual(error_of("actor main", "end", "actor a(p)", "state p = 1", "end"), (4, 7, "twice"))
        self.assertEqual(error_of("actor main", "state n = 1", "state n", "end"), (3, 7, "twice"))

    def test_messages_twice(self):
        self.assertEqual(error_of("actor main", "on go", "end", "on go(x)", "end", "end"), (4, 4, "twice"))
        self.assertEqual(error_of("actor main", "on go(x, x)", "end", "end"), (2, 10, "twice"))
        self.assertEqual(error_of("actor main", "on go(x, y, z, y,", "end", "end"), (2, 16, "twice"))

    def test_names_that_are_not_taken(self):
        self.assertIsNone(error_of("effect main 1", "actor main", "state main = 1", "on main(main)", "end", "end"))
        self.assertIsNone(error_of("actor main", "on go", "end", "end", "actor b", "on go", "end", "end"))
        self.assertIsNone(error_of("actor main", "end", "actor b(p)", "on go(p)", "set q = p", "end", "end"))
        self.assertIsNone(error_of("actor main", "on go(x)", "end", "on run(x)", "end", "end"))

    def test_taken(self):
        self.assertEqual(line_error("set x = 1"), (5, "taken"))
        self.assertEqual(line_error("set y"), (5, "taken"))
        self.assertEqual(line_error("spawn helper(1) as x"), (20, "taken"))
        self.assertEqual(line_error("spawn helper(1) as n z"), (20, "taken"))
        self.assertIsNone(line_error("set n = 1"))
        self.assertIsNone(body_error("set a = 1", "spawn helper(1) as a", "set a = 2"))
        self.assertIsNone(error_of("actor main", "end", "actor b(p)", "on go", "spawn main as p", "set p = p", "end", "end"))

    def test_unknown_names_in_states(self):
        self.assertEqual(error_of("actor main", "state n = n", "end"), (2, 11, "unknown"))
        self.assertEqual(error_of("actor main", "state a = 1 + b", "state b = 1", "end"), (2, 15, "unknown"))
        self.assertIsNone(error_of("actor main", "state a = 1", "state b = a", "end"))
        self.assertIsNone(error_of("actor main", "end", "actor b(p)", "state a = p", "end"))
        self.assertEqual(error_of("actor main", "end", "actor b(p)", "end", "actor c", "state a = p", "end"),
                         (6, 11, "unknown"))

    def test_unknown_names_in_handlers(self):
        for line, column in (("set n = z", 9), ("if z", 4), ("repeat z", 8), ("send self go(z)", 14),
                             ("send child(z) go", 12), ("spawn helper(z) as c", 14), ("call pay(z)", 10),
                             ("set n = x + (y * -z)", 19), ("set n = not z", 13), ("set n = main", 9),
                             ("set n = go", 9), ("set a = a", 9), ("spawn helper(c) as c", 14)):
            self.assertEqual(line_error(line), (column, "unknown"), line)

    def test_names_behind_set_and_as(self):
        self.assertIsNone(body_error("set a = 1", "set n = a"))
        self.assertEqual(body_error("set n = a", "set a = 1"), (1, 9, "unknown"))
        self.assertIsNone(body_error("spawn helper(1) as c", "send child(c) go"))
        self.assertIsNone(body_error("if x", "set a = 1", "else", "set n = a", "end", "set n = a"))
        self.assertIsNone(body_error("repeat 1", "if x", "else", "set a = 1", "end", "end", "set n = a"))
        self.assertEqual(body_error("if x", "set n = a", "else", "set a = 1", "end"), (2, 9, "unknown"))

    def test_names_of_other_handlers(self):
        self.assertEqual(error_of("actor main", "on go(x)", "set a = x", "end", "on run", "set b = a", "end", "end"),
                         (6, 9, "unknown"))
        self.assertEqual(error_of("actor main", "on go(x)", "end", "on run", "set b = x", "end", "end"), (5, 9, "unknown"))
        self.assertEqual(error_of("actor main", "end", "actor b(p)", "on go", "set b = p", "end", "end"), (5, 9, "unknown"))

    def test_unknown_effects(self):
        self.assertEqual(line_error("call nothing"), (6, "unknown"))
        self.assertEqual(line_error("call helper(1)"), (6, "unknown"))
        self.assertEqual(line_error("call nothing(z"), (6, "unknown"))
        self.assertEqual(line_error("call pay(z) then"), (10, "unknown"))

    def test_the_first_token_in_question(self):
        self.assertEqual(line_error("set x = z"), (5, "taken"))
        self.assertEqual(line_error("set n = z z"), (9, "unknown"))
        self.assertEqual(line_error("set n = x x z"), (11, "expected"))
        self.assertEqual(line_error("spawn helper(z) as x"), (14, "unknown"))
        self.assertEqual(line_error("spawn nobody(1) as x"), (20, "taken"))


class DeepTests(unittest.TestCase):
    def test_parentheses(self):
        self.assertIsNone(expression_error("(" * 20 + "x" + ")" * 20))
        self.assertEqual(expression_error("(" * 21 + "x" + ")" * 21), (21, "deep"))
        self.assertEqual(expression_error("(" * 30), (21, "deep"))

    def test_not(self):
        self.assertIsNone(expression_error("not " * 20 + "x"))
        self.assertEqual(expression_error("not " * 21 + "x"), (81, "deep"))

    def test_signs(self):
        self.assertIsNone(expression_error("-" * 20 + "x"))
        self.assertEqual(expression_error("-" * 21 + "x"), (21, "deep"))

    def test_the_sign_of_a_number_does_not_count(self):
        self.assertIsNone(expression_error("-" * 21 + "5"))
        self.assertEqual(expression_error("-" * 22 + "5"), (21, "deep"))
        self.assertIsNone(expression_error("(" * 20 + "-5" + ")" * 20))
        self.assertEqual(expression_error("(" * 20 + "-x" + ")" * 20), (21, "deep"))
        self.assertEqual(expression_error("(" * 20 + "-"), (21, "deep"))
        self.assertEqual(expression_error("(" * 20 + "--5"), (21, "deep"))

    def test_all_together(self):
        self.assertIsNone(expression_error("not -(" * 6 + "not -x" + ")" * 6))
        self.assertEqual(expression_error("not -(" * 6 + "not -(x"), (42, "deep"))

    def test_what_has_been_closed_does_not_count(self):
        self.assertIsNone(expression_error(" + ".join(["((x))"] * 30)))
        self.assertIsNone(expression_error(" and ".join(["not x"] * 30)))
        self.assertIsNone(expression_error(" * ".join(["-x"] * 30)))
        self.assertIsNone(expression_error("(" * 19 + "-x * (y)" + ")" * 19))
        self.assertIsNone(expression_error("(" * 19 + "not x and (y)" + ")" * 19))
        self.assertIsNone(expression_error("(" * 19 + "not x or not y" + ")" * 19))

    def test_what_has_been_closed_makes_no_room(self):
        for start in ("(x) + ", "-x + ", "((x)) * ", "not x and ", "not (-x) or "):
            self.assertIsNone(expression_error(start + "(" * 20 + "x" + ")" * 20), start)
            self.assertEqual(expression_error(start + "(" * 21 + "x" + ")" * 21), (len(start) + 21, "deep"), start)
        for start in ("send child(x) go(", "send child((x)) go("):
            self.assertEqual(line_error(start + "(" * 20 + "x" + ")" * 21), (len(start) + 20, "deep"), start)

    def test_a_not_is_open_until_its_comparison_has_been_read(self):
        self.assertEqual(expression_error("(" * 19 + "not x < (y)" + ")" * 19), (19 + 9, "deep"))
        self.assertEqual(expression_error("(" * 19 + "not x + -y" + ")" * 19), (19 + 9, "deep"))
        self.assertEqual(expression_error("(" * 19 + "not x * (y)" + ")" * 19), (19 + 9, "deep"))

    def test_parentheses_around_arguments(self):
        for start in ("send self go(", "send child(", "spawn helper(", "call pay("):
            rest = {"send child(": " go", "spawn helper(": " as c"}.get(start, "")
            self.assertIsNone(line_error(start + "(" * 19 + "x" + ")" * 20 + rest), start)
            self.assertEqual(line_error(start + "(" * 20 + "x" + ")" * 21 + rest), (len(start) + 20, "deep"), start)
        self.assertEqual(line_error("send self go(x, " + "(" * 20 + "x" + ")" * 21), (36, "deep"))
        self.assertIsNone(line_error("send child(" + "(" * 19 + "x" + ")" * 20 + " go(" + "(" * 19 + "x" + ")" * 20))

    def test_other_lines(self):
        self.assertEqual(error_of("actor main", "state n = " + "(" * 21), (2, 31, "deep"))
        self.assertEqual(line_error("if " + "(" * 21), (24, "deep"))
        self.assertEqual(line_error("repeat " + "-" * 21 + "x"), (28, "deep"))

    def test_a_token_that_is_not_due_is_not_open(self):
        self.assertEqual(expression_error("(" * 20 + "x (y)"), (23, "expected"))
        self.assertEqual(expression_error("(" * 20 + "x + not y"), (25, "expected"))


class CountTests(unittest.TestCase):
    def test_calls(self):
        self.assertEqual(line_error("call pay"), (6, "count"))
        self.assertEqual(line_error("call pay(1, 2)"), (6, "count"))
        self.assertEqual(line_error("  call  ring(1) then go"), (9, "count"))
        self.assertIsNone(line_error("call pay(1)"))

    def test_count_comes_behind_the_tokens_and_ahead_of_the_limit(self):
        self.assertEqual(line_error("call pay then"), (14, "expected"))
        self.assertEqual(line_error("call pay(1, z)"), (13, "unknown"))
        self.assertEqual(line_error("call pay(1, 2, 3, 4, 5)"), (6, "count"))
        self.assertEqual(body_error(*["stop"] * 60, "call pay"), (61, 6, "count"))


class LimitTests(unittest.TestCase):
    def test_actors(self):
        lines = []
        for letter in LETTERS[:6]:
            lines += ["actor " + letter, "end"]
        self.assertIsNone(error_of(*lines))
        self.assertEqual(error_of(*lines, "  actor more", "end"), (13, 3, "limit"))
        self.assertEqual(error_of(*lines, "actor a"), (13, 7, "twice"))

    def test_effects(self):
        effects = [f"effect {letter} 0" for letter in LETTERS[:6]]
        self.assertIsNone(error_of(*effects, "actor main", "end"))
        self.assertEqual(error_of(*effects, " effect more 0", "actor main", "end"), (7, 2, "limit"))

    def test_arguments_of_effects(self):
        self.assertIsNone(error_of("effect pay 4", "actor main", "end"))
        self.assertEqual(error_of("effect pay 5", "actor main", "end"), (1, 1, "limit"))
        self.assertEqual(error_of("effect pay 5 5", "actor main", "end"), (1, 14, "expected"))

    def test_handlers(self):
        lines = []
        for letter in LETTERS[:8]:
            lines += ["on " + letter, "end"]
        self.assertIsNone(error_of("actor main", *lines, "end"))
        self.assertEqual(error_of("actor main", *lines, "on more", "end", "end"), (18, 1, "limit"))
        self.assertIsNone(error_of("actor main", *lines, "end", "actor b", *lines, "end"))

    def test_states(self):
        lines = [f"state {letter} = 0" for letter in LETTERS[:10]]
        self.assertIsNone(error_of("actor main", *lines, "end"))
        self.assertEqual(error_of("actor main", *lines, "state more = 0", "end"), (12, 1, "limit"))
        self.assertIsNone(error_of("actor main", *lines, "end", "actor b", *lines, "end"))

    def test_parameters(self):
        self.assertIsNone(error_of("actor main", "end", "actor b(p, q, r, s)", "end"))
        self.assertEqual(error_of("actor main", "end", " actor b(p, q, r, s, t)", "end"), (3, 2, "limit"))
        self.assertIsNone(error_of("actor main", "on go(p, q, r, s)", "end", "end"))
        self.assertEqual(error_of("actor main", "  on go(p, q, r, s, t)", "end", "end"), (2, 3, "limit"))
        self.assertEqual(error_of("actor main", "on go(p, q, r, s, p)", "end", "end"), (2, 19, "twice"))

    def test_arguments(self):
        self.assertIsNone(line_error("send self go(1, 2, 3, 4)"))
        self.assertEqual(line_error("send self go(1, 2, 3, 4, 5)"), (1, "limit"))
        self.assertEqual(line_error(" send child(1) go(1, 2, 3, 4, 5)"), (2, "limit"))
        self.assertEqual(line_error(" spawn helper(1, 2, 3, 4, 5) as c"), (2, "limit"))
        self.assertEqual(line_error("spawn helper(1, 2, 3, 4) as c"), (7, "count"))
        self.assertEqual(line_error("send self go(1, 2, 3, 4, 5) 6"), (29, "expected"))

    def test_statements(self):
        self.assertIsNone(body_error(*["stop"] * 60))
        self.assertEqual(body_error(*["stop"] * 60, "  fail"), (61, 3, "limit"))
        self.assertIsNone(body_error("if x", *["stop"] * 30, "else", *["stop"] * 29, "end"))
        self.assertEqual(body_error("if x", *["stop"] * 30, "else", *["stop"] * 30, "end"), (62, 1, "limit"))
        self.assertEqual(body_error("repeat 1", *["stop"] * 59, "end", "if x", "end"), (62, 1, "limit"))
        self.assertEqual(body_error(*["stop"] * 60, "repeat z"), (61, 8, "unknown"))
        handler = ["stop"] * 60 + ["end"]
        self.assertIsNone(error_of("actor main", "on go", *handler, "on run", *handler, "end"))

    def test_depth_of_lists(self):
        for word in ("if x", "if x\nelse"):
            lines = (word + "\n") * 4 + "stop\n" + "end\n" * 3 + "end"
            self.assertIsNone(body_error(lines), word)
        self.assertEqual(body_error(*["if x"] * 5), (5, 1, "limit"))
        self.assertEqual(body_error(*["if x"] * 4, "  repeat 1"), (5, 3, "limit"))
        self.assertEqual(body_error(*["if x", "else"] * 4, "if x"), (9, 1, "limit"))
        self.assertIsNone(body_error(*["if x"] * 4, "end", "if x", "end", "end", "end", "end"))

    def test_repeats_within_one_another(self):
        self.assertIsNone(body_error("repeat 1", "repeat 1", "end", "repeat 1", "end", "end", "repeat 1", "end"))
        self.assertEqual(body_error("repeat 1", "repeat 1", "repeat 1"), (3, 1, "limit"))
        self.assertEqual(body_error("repeat 1", "if x", "repeat 1", " repeat 1"), (4, 2, "limit"))
        self.assertEqual(body_error("repeat 1", "repeat 1", "if x", "else", "repeat 1"), (5, 1, "limit"))
        self.assertIsNone(body_error("repeat 1", "repeat 1", "if x", "else", "end", "end", "end"))


class EndTests(unittest.TestCase):
    def test_no_actor(self):
        self.assertEqual(error_of("effect pay 1"), (2, 1, "end"))
        self.assertEqual(error_of("effect pay 1", "", ""), (3, 1, "end"))
        self.assertEqual(error_of("   "), (2, 1, "end"))
        self.assertEqual(error_of("", ""), (2, 1, "end"))

    def test_empty_text(self):
        self.assertEqual(text_error(read_program, ""), (1, 1, "end"))

    def test_at_each_level(self):
        lines = ["actor main", "state n = 1", "on go", "if n", "stop", "else", "repeat 2", "end", "end", "end", "end"]
        for many in range(1, len(lines)):
            self.assertEqual(error_of(*lines[:many]), (many + 1, 1, "end"), many)
            self.assertEqual(error_of(*lines[:many], ""), (many + 1, 1, "end"), many)
            self.assertEqual(error_of(*lines[:many], "", ""), (many + 2, 1, "end"), many)
            self.assertEqual(error_of(*lines[:many], "", "  "), (many + 3, 1, "end"), many)
        self.assertIsNone(error_of(*lines))

    def test_within_a_later_actor(self):
        self.assertEqual(error_of("actor main", "end", "actor b"), (4, 1, "end"))

    def test_other_errors_come_first(self):
        self.assertEqual(error_of("actor main", "stop"), (2, 1, "line"))
        self.assertEqual(error_of("actor main", "on go", "spawn nobody as c"), (4, 1, "end"))


class SpawnTests(unittest.TestCase):
    def test_unknown_and_count(self):
        self.assertEqual(body_error("stop", "  spawn nobody as c"), (2, 9, "unknown"))
        self.assertEqual(body_error("spawn pay(1) as c"), (1, 7, "unknown"))
        self.assertEqual(body_error(" spawn helper as c"), (1, 8, "count"))
        self.assertEqual(body_error("spawn helper(1, 2) as c"), (1, 7, "count"))
        self.assertEqual(body_error("spawn main(1) as c"), (1, 7, "count"))
        self.assertIsNone(body_error("spawn helper(1) as c", "spawn main as d"))

    def test_in_order(self):
        self.assertEqual(body_error("spawn helper(1) as c", "spawn helper as c", "spawn nobody as c"), (2, 7, "count"))
        self.assertEqual(body_error("spawn nobody as c", "spawn helper as c"), (1, 7, "unknown"))
        self.assertEqual(body_error("if x", "spawn nobody as c", "end", "spawn helper as c"), (2, 7, "unknown"))

    def test_only_if_there_is_no_other_error(self):
        self.assertEqual(body_error("spawn nobody as c", "set n = z"), (2, 9, "unknown"))
        self.assertEqual(body_error("spawn nobody as c", "call pay"), (2, 6, "count"))
        self.assertEqual(error_of("actor main", "on go", "spawn nobody as c", "end", "end", "foo"), (6, 1, "line"))
        self.assertEqual(error_of("actor main", "on go", "spawn main(1) as c", "end"), (5, 1, "end"))


if __name__ == "__main__":
    unittest.main()
