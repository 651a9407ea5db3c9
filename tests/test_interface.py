"""The interface: names, arguments, and the files in which they are defined."""

import inspect
import unittest

from windowsteps import (
    better, binds, blocks, board, certificates, cheapest, figures, history, merging, moves, plans, repairs, sequences,
    shell, systems, tasks, texts, windows,
)

FUNCTIONS = [
    (figures, "shortfall", ["system", "numbers", "rule"]),
    (figures, "first_breach", ["system", "numbers"]),
    (figures, "is_admitted", ["system", "numbers"]),
    (figures, "smaller", ["system", "one", "two"]),
    (figures, "greater", ["system", "one", "two"]),
    (texts, "format_system", ["system"]),
    (texts, "parse_system", ["text"]),
    (windows, "contradiction", ["system"]),
    (windows, "is_contradiction", ["system", "thing"]),
    (windows, "tightest", ["system", "low", "high"]),
    (windows, "chain", ["system", "low", "high"]),
    (windows, "window", ["system", "name"]),
    (blocks, "blocks", ["system"]),
    (blocks, "grounded", ["system"]),
    (blocks, "block_of", ["system", "name"]),
    (moves, "after_step", ["system", "numbers", "step"]),
    (moves, "is_safe", ["system", "numbers", "step"]),
    (moves, "safe_steps", ["system", "numbers"]),
    (sequences, "least_steps", ["system", "old", "new"]),
    (sequences, "sequence", ["system", "old", "new"]),
    (sequences, "is_sequence", ["system", "old", "new", "thing"]),
    (sequences, "moments", ["system", "old", "new"]),
    (tasks, "price_of", ["task", "numbers"]),
    (tasks, "is_solution", ["task", "numbers"]),
    (binds, "bind", ["task"]),
    (binds, "is_bind", ["task", "thing"]),
    (cheapest, "least_price", ["task"]),
    (cheapest, "cheapest", ["task"]),
    (certificates, "total", ["task", "amounts"]),
    (certificates, "certificate", ["task"]),
    (certificates, "check_certificate", ["task", "thing", "bar"]),
    (better, "better_move", ["task", "numbers"]),
    (better, "is_better", ["task", "numbers", "thing"]),
    (merging, "merged", ["system", "base", "one", "two"]),
    (merging, "conflicts", ["system", "base", "one", "two"]),
    (merging, "merge_task", ["system", "base", "one", "two", "prices"]),
    (repairs, "eased", ["system", "numbers"]),
    (repairs, "walk", ["system", "old", "new"]),
    (repairs, "repair", ["task"]),
]
GENERATORS = ["safe_steps", "moments"]


class InterfaceTest(unittest.TestCase):
    def test_functions(self):
        for module, name, parameters in FUNCTIONS:
            with self.subTest(name=name):
                function = getattr(module, name)
                self.assertTrue(inspect.isfunction(function))
                self.assertEqual(function.__module__, module.__name__)
                self.assert_plain_parameters(function, parameters)
                self.assertIs(inspect.isgeneratorfunction(function), name in GENERATORS)

    def test_system(self):
        body = vars(systems.System)
        self.assertEqual(systems.System.__module__, "windowsteps.systems")
        self.assert_plain_parameters(body["__init__"], ["self", "names", "rules"])
        self.assert_plain_parameters(body["without"], ["self", "rule"])
        self.assertTrue(inspect.isfunction(body["with_rules"]))
        self.assertTrue(inspect.isfunction(body["__eq__"]))
        for name in ("names", "rules"):
            self.assertIsInstance(body[name], property)
        self.assertIsInstance(body["is_rule"], staticmethod)
        self.assert_plain_parameters(systems.System.is_rule, ["thing"])

    def test_prices(self):
        body = vars(tasks.Prices)
        self.assertEqual(tasks.Prices.__module__, "windowsteps.tasks")
        parameters = list(inspect.signature(tasks.Prices).parameters.values())
        self.assertEqual([parameter.name for parameter in parameters], ["raising", "lowering"])
        for parameter in parameters:
            self.assertEqual(parameter.kind, parameter.KEYWORD_ONLY)
            self.assertEqual(repr(parameter.default), "1")
        self.assert_plain_parameters(body["with_price"], ["self", "name", "price"])
        for name in ("raising", "lowering", "single"):
            self.assertIsInstance(body[name], property)

    def test_task(self):
        body = vars(tasks.Task)
        self.assertEqual(tasks.Task.__module__, "windowsteps.tasks")
        self.assert_plain_parameters(body["__init__"], ["self", "system", "numbers", "prices"])
        for name in ("system", "numbers", "prices"):
            self.assertIsInstance(body[name], property)

    def test_plan(self):
        methods = {name: [] for name in ("advance", "back", "finish", "abandon", "turned", "copy")}
        methods["__init__"] = ["system", "old", "new"]
        self.assert_class(plans, "Plan", methods, ["steps", "done", "current", "is_finished"])

    def test_history(self):
        methods = {
            "__init__": ["system", "numbers"], "step": ["step"], "demand": ["rule"], "waive": ["rule"],
            "settle": ["prices"], "undo": [], "copy": [], "__len__": [],
        }
        self.assert_class(history, "History", methods, ["system", "numbers", "breaches", "spent"])

    def test_board(self):
        methods = {
            "__init__": [], "create": ["name", "text"], "require": ["name", "rule"], "free": ["name", "rule"],
            "move": ["name", "block", "change"], "lead": ["name", "numbers"], "drop": ["name"], "mark": ["label"],
            "back": ["label"], "batch": ["commands"], "system_of": ["name"], "numbers_of": ["name"],
            "spent_on": ["name"], "copy": [],
        }
        self.assert_class(board, "Board", methods, ["names", "log"])
        _, name, *prices = inspect.signature(board.Board.settle).parameters.values()
        self.assertEqual([name.name, name.kind], ["name", name.POSITIONAL_OR_KEYWORD])
        self.assertEqual([parameter.name for parameter in prices], ["raising", "lowering"])
        for parameter in prices:
            self.assertEqual([parameter.kind, repr(parameter.default)], [parameter.KEYWORD_ONLY, "1"])

    def test_shell(self):
        self.assert_class(shell, "Shell", {"__init__": [], "run": ["line"]}, [])

    def assert_class(self, module, name, methods, properties):
        """Checks for methods with plain parameters and for properties in the very body of a class."""
        kind = getattr(module, name)
        self.assertEqual(kind.__module__, module.__name__)
        for method, parameters in methods.items():
            with self.subTest(name=name, method=method):
                self.assert_plain_parameters(vars(kind)[method], ["self", *parameters])
        for each in properties:
            with self.subTest(name=name, property=each):
                self.assertIsInstance(vars(kind)[each], property)

    def assert_plain_parameters(self, function, names):
        parameters = list(inspect.signature(function).parameters.values())
        self.assertEqual([parameter.name for parameter in parameters], names)
        for parameter in parameters:
            self.assertEqual(parameter.kind, parameter.POSITIONAL_OR_KEYWORD)
            self.assertIs(parameter.default, parameter.empty)


if __name__ == "__main__":
    unittest.main()
