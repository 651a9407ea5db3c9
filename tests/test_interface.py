"""The interface: names, arguments, and the files in which they are defined."""

import inspect
import unittest

from windowsteps import blocks, figures, moves, systems, texts, windows

FUNCTIONS = [
    (figures, "shortfall", ["system", "numbers", "rule"]),
    (figures, "first_breach", ["system", "numbers"]),
    (figures, "is_admitted", ["system", "numbers"]),
    (figures, "smaller", ["system", "one", "two"]),
    (figures, "greater", ["system", "one", "two"]),
    (texts, "format_system", ["system"]),
    (texts, "parse_system", ["text"]),
    (windows, "contradiction", ["system"]),
    (windows, "is_contradiction", ["system", "thing"]),
    (windows, "tightest", ["system", "low", "high"]),
    (windows, "chain", ["system", "low", "high"]),
    (windows, "window", ["system", "name"]),
    (blocks, "blocks", ["system"]),
    (blocks, "grounded", ["system"]),
    (blocks, "block_of", ["system", "name"]),
    (moves, "after_step", ["system", "numbers", "step"]),
    (moves, "is_safe", ["system", "numbers", "step"]),
    (moves, "safe_steps", ["system", "numbers"]),
]
GENERATORS = ["safe_steps"]


class InterfaceTest(unittest.TestCase):
    def test_functions(self):
        for module, name, parameters in FUNCTIONS:
            with self.subTest(name=name):
                function = getattr(module, name)
                self.assertTrue(inspect.isfunction(function))
                self.assertEqual(function.__module__, module.__name__)
                self.assert_plain_parameters(function, parameters)
                self.assertIs(inspect.isgeneratorfunction(function), name in GENERATORS)

    def test_system(self):
        body = vars(systems.System)
        self.assertEqual(systems.System.__module__, "windowsteps.systems")
        self.assert_plain_parameters(body["__init__"], ["self", "names", "rules"])
        self.assert_plain_parameters(body["without"], ["self", "rule"])
        self.assertTrue(inspect.isfunction(body["with_rules"]))
        self.assertTrue(inspect.isfunction(body["__eq__"]))
        for name in ("names", "rules"):
            self.assertIsInstance(body[name], property)
        self.assertIsInstance(body["is_rule"], staticmethod)
        self.assert_plain_parameters(systems.System.is_rule, ["thing"])

    def assert_plain_parameters(self, function, names):
        parameters = list(inspect.signature(function).parameters.values())
        self.assertEqual([parameter.name for parameter in parameters], names)
        for parameter in parameters:
            self.assertEqual(parameter.kind, parameter.POSITIONAL_OR_KEYWORD)
            self.assertIs(parameter.default, parameter.empty)


if __name__ == "__main__":
    unittest.main()
