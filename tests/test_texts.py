"""Texts that were damaged by a fixed row of random numbers: they are refused, or what is read is let by."""

import random
import unittest

from retroact.errors import TextError
from retroact.program import is_let_by, same_program
from retroact.reader import read_program
from retroact.writer import write_program

from tests.samples import programs

REASONS = ("character", "word", "number", "line", "expected", "twice", "taken", "unknown", "deep", "count", "limit", "end")


def damaged(text, dice):
    """Return a text with a word or a line left out, doubled, or put in the place of another one."""
    lines = text.split("\n")
    at, other = dice.randrange(len(lines)), dice.randrange(len(lines))
    if dice.random() < 0.3:
        lines[at:at + 1] = dice.choice(([], [lines[at]] * 2, [lines[other]]))
    else:
        words, others = lines[at].split(" "), lines[other].split(" ")
        place = dice.randrange(len(words))
        words[place:place + 1] = dice.choice(([], [words[place]] * 2, [dice.choice(others)], [dice.choice("()-,=?")]))
        lines[at] = " ".join(words)
    return "\n".join(lines)


class DamagedTextTests(unittest.TestCase):
    def test_what_is_read_is_let_by(self):
        dice = random.Random(7)
        texts = [write_program(program) for program in programs(60)]
        read, reasons = 0, {}
        for _ in range(3000):
            text = damaged(dice.choice(texts), dice)
            try:
                program = read_program(text)
            except TextError as error:
                self.assertIn(error.reason, REASONS)
                self.check_place(text, error)
                reasons[error.reason] = True
            else:
                read += 1
                self.assertTrue(is_let_by(program), text)
                self.assertTrue(same_program(read_program(write_program(program)), program), text)
        self.assertGreater(read, 100)
        self.assertGreater(len(reasons), 6)

    def check_place(self, text, error):
        lines = text.split("\n")
        if lines[-1] == "":
            lines.pop()
        if error.reason == "end":
            self.assertEqual((error.line, error.column), (len(lines) + 1, 1), text)
        else:
            self.assertLessEqual(error.column, len(lines[error.line - 1]) + 1, text)
            self.check_that_later_lines_do_not_matter(lines, error)

    def check_that_later_lines_do_not_matter(self, lines, error):
        # The kinds of spawns are looked at last, behind all lines.
        if lines[error.line - 1].split()[0] != "spawn":
            with self.assertRaises(TextError) as caught:
                read_program("\n".join(lines[:error.line] + ["?"]))
            again = caught.exception
            self.assertEqual((again.line, again.column, again.reason), (error.line, error.column, error.reason))


if __name__ == "__main__":
    unittest.main()
