import unittest

from retroact.lexer import tokens

from tests.helpers import text_error


class TokenTests(unittest.TestCase):
    def test_kinds_and_columns(self):
        self.assertEqual(tokens("set n = 12", 1), [
            ("word", "set", 1), ("word", "n", 5), ("sign", "=", 7), ("number", "12", 9),
        ])

    def test_no_tokens(self):
        self.assertEqual(tokens("", 1), [])
        self.assertEqual(tokens("     ", 1), [])

    def test_none_one_or_several_spaces(self):
        self.assertEqual(tokens("a+12b", 1), [
            ("word", "a", 1), ("sign", "+", 2), ("number", "12", 3), ("word", "b", 5),
        ])
        self.assertEqual(tokens("a + 12 b", 1), [
            ("word", "a", 1), ("sign", "+", 3), ("number", "12", 5), ("word", "b", 8),
        ])
        self.assertEqual(tokens("  a   +  12  b   ", 1), [
            ("word", "a", 3), ("sign", "+", 7), ("number", "12", 10), ("word", "b", 14),
        ])

    def test_words_and_numbers_are_as_long_as_possible(self):
        self.assertEqual(tokens("ab cd", 1), [("word", "ab", 1), ("word", "cd", 4)])
        self.assertEqual(tokens("abcd", 1), [("word", "abcd", 1)])
        self.assertEqual(tokens("1 20", 1), [("number", "1", 1), ("number", "20", 3)])
        self.assertEqual(tokens("120", 1), [("number", "120", 1)])
        self.assertEqual(tokens("a1", 1), [("word", "a", 1), ("number", "1", 2)])
        self.assertEqual(tokens("notx", 1), [("word", "notx", 1)])

    def test_key_words_are_words(self):
        self.assertEqual(tokens("not rest", 1), [("word", "not", 1), ("word", "rest", 5)])

    def test_all_letters_and_digits(self):
        self.assertEqual(tokens("abcdefghijkl mnopqrstuvwx yz", 1), [
            ("word", "abcdefghijkl", 1), ("word", "mnopqrstuvwx", 14), ("word", "yz", 27),
        ])
        self.assertEqual(tokens("123456789 10", 1), [("number", "123456789", 1), ("number", "10", 11)])

    def test_each_sign(self):
        for sign in ("<", "=", ">", "+", "-", "*", "/", "(", ")", ",", "<=", ">="):
            self.assertEqual(tokens(sign, 1), [("sign", sign, 1)])
            self.assertEqual(tokens("a" + sign + "b", 1), [
                ("word", "a", 1), ("sign", sign, 2), ("word", "b", 2 + len(sign)),
            ])

    def test_signs_of_two_characters(self):
        self.assertEqual(tokens("< =", 1), [("sign", "<", 1), ("sign", "=", 3)])
        self.assertEqual(tokens("> =", 1), [("sign", ">", 1), ("sign", "=", 3)])
        self.assertEqual(tokens("=<", 1), [("sign", "=", 1), ("sign", "<", 2)])
        self.assertEqual(tokens("==", 1), [("sign", "=", 1), ("sign", "=", 2)])
        self.assertEqual(tokens("<==", 1), [("sign", "<=", 1), ("sign", "=", 3)])
        self.assertEqual(tokens("<>=", 1), [("sign", "<", 1), ("sign", ">=", 2)])

    def test_signs_side_by_side(self):
        self.assertEqual([token[1] for token in tokens("((-+*/,))", 1)], list("((-+*/,))"))

    def test_the_list_is_new(self):
        first = tokens("a b", 1)
        first.clear()
        self.assertEqual(len(tokens("a b", 1)), 2)


class TokenErrorTests(unittest.TestCase):
    def test_length_of_words(self):
        self.assertEqual(tokens("abcdefghijkl", 1), [("word", "abcdefghijkl", 1)])
        self.assertEqual(text_error(tokens, "abcdefghijklm", 1), (1, 1, "word"))
        self.assertEqual(text_error(tokens, "a  abcdefghijklm", 7), (7, 4, "word"))
        self.assertEqual(text_error(tokens, "1abcdefghijklm2", 7), (7, 2, "word"))

    def test_zeros(self):
        self.assertEqual(tokens("0", 1), [("number", "0", 1)])
        self.assertEqual(tokens("10 0", 1), [("number", "10", 1), ("number", "0", 4)])
        self.assertEqual(text_error(tokens, "00", 1), (1, 1, "number"))
        self.assertEqual(text_error(tokens, "a = 01", 2), (2, 5, "number"))

    def test_size_of_numbers(self):
        self.assertEqual(tokens("1000000000", 1), [("number", "1000000000", 1)])
        self.assertEqual(tokens("999999999", 1), [("number", "999999999", 1)])
        self.assertEqual(text_error(tokens, "1000000001", 1), (1, 1, "number"))
        self.assertEqual(text_error(tokens, "  9999999999", 1), (1, 3, "number"))
        self.assertEqual(text_error(tokens, "x 10000000000", 5), (5, 3, "number"))
        self.assertEqual(text_error(tokens, "12345678901", 5), (5, 1, "number"))
        self.assertEqual(text_error(tokens, "7" * 9000, 5), (5, 1, "number"))

    def test_characters(self):
        for character in ("A", "Z", "_", ".", "%", "\t", "\r", "\n", "!", ":", "{", "`", "~", "\u00e9", "\u0661", "\u00a0"):
            self.assertEqual(text_error(tokens, character + "set n", 4), (4, 1, "character"), character)
            self.assertEqual(text_error(tokens, "set " + character + " n", 4), (4, 5, "character"), character)
            self.assertEqual(text_error(tokens, "set n" + character, 4), (4, 6, "character"), character)

    def test_the_first_error_of_a_line(self):
        self.assertEqual(text_error(tokens, "00 abcdefghijklm ?", 3), (3, 1, "number"))
        self.assertEqual(text_error(tokens, "a abcdefghijklm 00 ?", 3), (3, 3, "word"))
        self.assertEqual(text_error(tokens, "a b? 00 abcdefghijklm", 3), (3, 4, "character"))
        self.assertEqual(text_error(tokens, "?!", 3), (3, 1, "character"))


if __name__ == "__main__":
    unittest.main()
