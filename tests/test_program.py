"""What the document promises over the whole program: its interface, and how every call deals with what is around it."""

import ast
import builtins
import contextlib
import copy
import inspect
import io
import itertools
import pathlib
import sys
import unittest
from unittest import mock

import oracle
from graphcore import folds

ARGUMENTS = {
    "core": ["n", "first"],
    "fold": ["n", "first"],
    "iscore": ["n", "first"],
    "below": ["n", "m", "first", "second"],
    "on": ["n", "first", "places"],
    "fast": ["n", "first"],
    "alike": ["n", "m", "first", "second"],
}

README = pathlib.Path(__file__).resolve().parent.parent / "README.md"


def right_and_wrong_graphs():
    yield from oracle.few_graphs()
    for why, n, first in oracle.no_graphs():
        yield n, first


def right_and_wrong_places(n):
    if 1 <= n <= 5:
        yield from oracle.choices_of_places(n)
    for why, count, places in oracle.no_places():
        if count == n:
            yield places


def calls():
    """Every call with right and wrong inputs: its name, and what is handed in."""
    graphs = list(right_and_wrong_graphs())
    for n, first in graphs:
        for name in ("core", "fold", "iscore", "fast"):
            yield name, (n, first)
        for places in right_and_wrong_places(n):
            yield "on", (n, first, places)
    for (n, first), (m, second) in itertools.product(graphs[::5], repeat=2):
        for name in ("below", "alike"):
            yield name, (n, m, first, second)


def untouchable(handed):
    return [oracle.Untouchable(value) if isinstance(value, list) else value for value in handed]


def kept():
    """What the module holds, apart from what Python puts into every one."""
    return {name: copy.deepcopy(value) for name, value in vars(folds).items() if not name.startswith("__")}


def length_told(name, count):
    """How many numbers an answer has that begins with count; of core and on, ahead of the arrows."""
    return {"core": count + 1, "fold": count + 1, "alike": count + 1, "on": 1,
            "iscore": 1, "below": 2, "fast": 3}[name]


class Interface(unittest.TestCase):
    def test_names_and_arguments(self):
        for name, arguments in ARGUMENTS.items():
            with self.subTest(name):
                parameters = inspect.signature(getattr(folds, name)).parameters.values()
                self.assertEqual([parameter.name for parameter in parameters], arguments)
                for parameter in parameters:
                    self.assertIs(parameter.kind, parameter.POSITIONAL_OR_KEYWORD)
                    self.assertIs(parameter.default, parameter.empty)


class Answers(unittest.TestCase):
    def test_whole_numbers_and_only_refusals_below_0(self):
        for name, handed in calls():
            with self.subTest(name, handed=handed):
                answer = getattr(folds, name)(*handed)
                self.assertIs(type(answer), list)
                self.assertEqual({type(number) for number in answer}, {int})
                if answer[0] < 0:
                    self.assertIn(answer, [oracle.REFUSED, oracle.UNLIKE] if name == "alike" else [oracle.REFUSED])
                else:
                    self.assertGreaterEqual(min(answer), 0)

    def test_as_many_numbers_as_told(self):
        for name, handed in calls():
            answer = getattr(folds, name)(*handed)
            if answer[0] < 0:
                continue
            with self.subTest(name, handed=handed):
                more = len(answer) - length_told(name, answer[0])
                if name in ("core", "on"):
                    self.assertGreaterEqual(more, 0)
                    self.assertEqual(more % 2, 0)
                else:
                    self.assertEqual(more, 0)


class Surroundings(unittest.TestCase):
    def test_what_is_handed_in_stays_as_it_was(self):
        for name, handed in calls():
            with self.subTest(name, handed=handed):
                given = untouchable(handed)
                answer = getattr(folds, name)(*given)
                self.assertEqual(given, list(handed))
                # Whoever asked may change the answer, and what was handed in must stay even then.
                answer.clear()
                self.assertEqual(given, list(handed))

    def test_nothing_is_kept(self):
        before = kept()
        asked = list(calls())
        answers = [getattr(folds, name)(*handed) for name, handed in asked]
        self.assertEqual(kept(), before)
        for answer, (name, handed) in reversed(list(zip(answers, asked))):
            with self.subTest(name, handed=handed):
                self.assertEqual(getattr(folds, name)(*handed), answer)

    def test_nothing_is_printed_read_or_imported(self):
        asked = list(calls())[::3]
        modules = set(sys.modules)
        out, err = io.StringIO(), io.StringIO()
        refuse = mock.Mock(side_effect=AssertionError("the program printed, read or imported"))
        with contextlib.redirect_stdout(out), contextlib.redirect_stderr(err):
            with mock.patch.multiple(builtins, print=refuse, open=refuse, input=refuse, __import__=refuse):
                for name, handed in asked:
                    getattr(folds, name)(*handed)
        refuse.assert_not_called()
        self.assertEqual((out.getvalue(), err.getvalue()), ("", ""))
        self.assertEqual(set(sys.modules), modules)


class Readme(unittest.TestCase):
    def test_its_examples_hold(self):
        block = README.read_text(encoding="utf-8").split("```python\n")[1].split("```")[0]
        first = ast.literal_eval(block.split("first = ")[1].split("#")[0].strip())
        told = [line.split("#") for line in block.splitlines() if line.partition("(")[0] in ARGUMENTS]
        self.assertEqual({call.partition("(")[0] for call, answer in told}, set(ARGUMENTS))
        for call, answer in told:
            with self.subTest(call):
                self.assertEqual(eval(call, dict(vars(folds), first=first)), ast.literal_eval(answer.strip()))


if __name__ == "__main__":
    unittest.main()
