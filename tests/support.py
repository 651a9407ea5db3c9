"""What several tests use: wrong inputs of every kind, exact errors, and the document's examples."""

import time
import unittest

from windowsteps import errors
from windowsteps.board import Board
from windowsteps.history import History
from windowsteps.plans import Plan
from windowsteps.shell import Shell
from windowsteps.systems import System
from windowsteps.tasks import Prices, Task


def nested(depth):
    thing = []
    for _ in range(depth - 1):
        thing = [thing]
    return thing


def objects():
    """New objects of every kind that a caller may pass where an error is listed for any object."""
    return [
        None, True, False, 0, 1, -1, 999, 99999, 10 ** 39, -(10 ** 40 - 1),
        "", "a", "b", "ab", "A", "a b", "a\n", "\ta", "a" * 9, "-", "0", "~" * 70000,
        (), ("a",), ("a", "b"), ("a", 1), ("a", "b", None), ("a", "b", True), ("a", "b", "1"),
        ("a", "b", 1000), ("a", "b", -1000), ("a", "b", 10 ** 39), ("a", "b", (1,)), ("a", "b", 1, 1),
        ("a", "a", 0), (None, None, 0), (False, "b", 0), ("a", 0, 0), ("", "b", 0), ("a", "", 0),
        (["a"], "b", 0), ("a", ["b"], 0), ({}, {}, {}), ("a", "b", [1]), ("-", "b", 0), ("A", "b", 0),
        [["a"]], ["a", "b", 1], [("a", "b")], [None], [True], [{}], [0], ["a", "a"], [[], ()], nested(20),
        list(range(5000)), [("a", "b", 1)] * 4 + [0], ["", "a"],
        {}, {"a": True}, {"a": None}, {"a": "0"}, {"b": [0]}, {0: "a", "a": 0}, {1: {2: {3: ()}}},
        {"a": 0, "b": 100000}, {"a": -100000, "b": 0}, {"a": 0, "b": False}, {"a": 0, "b": 0, "c": 0},
        {"a": 0, "b": 0, 0: 0}, {"a": 0, "B": 0}, {"a": 0, "b": (0,)}, {"a": 0, "b": 10 ** 39},
        System([], []), System(["a", "b"], [("a", "b", 1)]), Prices(), Task(System([], []), {}, Prices()),
        Plan(System([], []), {}, {}), History(System([], []), {}), Board(), Shell(),
    ]


def mangled(parts):
    """Lists made from a list of tuples in which one part is changed, left out, put in or repeated."""
    parts = list(parts)
    yield tuple(parts)
    yield [parts]
    yield [*parts, None]
    for at, part in enumerate(parts):
        before, after = parts[:at], parts[at + 1:]
        yield before + after
        yield before + [part, part] + after
        yield before + [list(part)] + after
        for inner in range(len(part)):
            for other in (None, True, False, 0, 1, -1, 2, 10 ** 39, "a", "b", "", [part[inner]], (), {}):
                yield before + [part[:inner] + (other,) + part[inner + 1:]] + after
            yield before + [part[:inner] + part[inner + 1:]] + after
            yield before + [part[:inner] + part[inner:inner + 1] * 2 + part[inner + 1:]] + after


class Case(unittest.TestCase):
    def assert_raises_exactly(self, kind, call, *arguments, **more):
        """Checks that a call raises this very class, and leaves its arguments as they were."""
        before = repr((arguments, more))
        try:
            outcome = call(*arguments, **more)
        except errors.WindowError as error:
            self.assertIs(type(error), kind)
        else:
            self.fail(f"{outcome!r} was returned where {kind.__name__} should be raised")
        self.assertEqual(repr((arguments, more)), before)

    def assert_quick(self, call, *arguments, seconds=0.9):
        """Checks that a call takes less than so many seconds, and returns what it returns."""
        start = time.perf_counter()
        outcome = call(*arguments)
        self.assertLess(time.perf_counter() - start, seconds)
        return outcome

    def assert_same(self, outcome, wanted):
        """Checks for equal values of equal kinds, with the keys of dicts in the same order."""
        self.assertEqual(repr(outcome), repr(wanted))

    def assert_examples(self, text):
        """Runs lines of the document: ">>> code", then what it returns or "raises" and an error."""
        scope = {}
        lines = text.strip().split("\n")
        for at, line in enumerate(lines):
            if not line.startswith(">>> "):
                continue
            follows = lines[at + 1] if at + 1 < len(lines) else ">>> "
            with self.subTest(line=line):
                self._run_example(line[4:], follows, scope)

    def _run_example(self, code, follows, scope):
        if follows.startswith(">>> "):
            exec(code, scope)
        elif follows.startswith("raises "):
            self._run_failing(code, follows[7:], scope)
        else:
            self.assertEqual(repr(eval(code, scope)), follows)

    def _run_failing(self, code, wanted, scope):
        try:
            outcome = eval(code, scope)
        except errors.WindowError as error:
            self.assertEqual(type(error).__name__, wanted.partition("(")[0])
            if "(" in wanted:
                self.assertEqual(vars(error), vars(eval(wanted, vars(errors))))
        else:
            self.fail(f"{outcome!r} was returned where {wanted} should be raised")
