"""What is promised over the whole program."""

import ast
import os
import pathlib
import subprocess
import sys
import unittest

ROOT = pathlib.Path(__file__).resolve().parent.parent

# One of each kind of call, on random programs, histories and rules; what they return is printed.
SCRIPT = """
from retroact.answers import ask, model
from retroact.branches import branch
from retroact.cases import Unknown, make_cases, where
from retroact.desk import answers_of
from retroact.errors import RetroactError
from retroact.facts import facts_of
from retroact.history import changes, states_of
from retroact.papers import derivation, make_book
from retroact.patches import same_patch
from retroact.plans import plan
from retroact.prices import Prices
from retroact.report import branch_report, by_names, state_report
from retroact.writer import write_program
from tests.helpers import attributes
from tests.logic import samples
from tests.samples import histories
from tests.test_desk import random_lines

def shown(call, *arguments):
    try:
        return attributes(call(*arguments))
    except RetroactError as error:
        return (type(error).__name__, attributes(error))

pairs = histories(25, 14)
for program, events in pairs:
    print(write_program(program), shown(facts_of, program, events))
    print(shown(branch_report, program, events, branch(program, events, 0, by_names(program, program))))
    states = states_of(program, events)
    print(state_report(program, states[-1]), changes(states[0], states[-1]), shown(same_patch, program))
    calls = states[-1].gone[:12]
    print(shown(plan, calls, calls[1:], Prices({call[1]: (3, 2, (1, 1)) for call in calls})))
    for moment, event in enumerate(events):
        print(shown(make_cases, program, events, Unknown(moment, 0, -20, 500)))
        print(shown(where, program, events, Unknown(moment, 0, -20, 500), (), ("number", 1)))
for rules, facts, _ in samples(30):
    known = model(rules, facts)
    print(known, make_book(rules, facts), [derivation(rules, facts, fact) for fact in known])
for seed in range(6):
    print(answers_of(random_lines(seed)))
"""


def outcome(seed):
    environment = dict(os.environ, PYTHONHASHSEED=str(seed), PYTHONPATH=str(ROOT), PYTHONDONTWRITEBYTECODE="1")
    return subprocess.run([sys.executable, "-c", SCRIPT], env=environment, cwd=ROOT, capture_output=True, check=True).stdout


class WholeTests(unittest.TestCase):
    def test_the_same_calls_give_the_same_results(self):
        first = outcome(1)
        self.assertGreater(len(first), 100000)
        self.assertEqual(first, outcome(2))

    def test_no_clock_no_random_numbers_and_no_files(self):
        for path in sorted((ROOT / "retroact").glob("*.py")):
            for node in ast.walk(ast.parse(path.read_text(encoding="utf-8"))):
                if isinstance(node, ast.ImportFrom):
                    self.assertTrue(node.module.startswith("retroact."), path)
                self.assertNotIsInstance(node, (ast.Import, ast.Global, ast.Nonlocal), path)
                if isinstance(node, ast.Name):
                    self.assertNotIn(node.id, ("open", "print", "input", "exec", "eval", "__import__", "id", "hash"), path)


if __name__ == "__main__":
    unittest.main()
