"""Windowsteps' errors, as the interface lists them."""

import unittest

from windowsteps import errors

PLAIN = [
    "InvalidSystem", "UnknownRule", "UnknownSetting", "InvalidNumbers", "Contradiction", "InvalidStep",
    "InvalidPrices", "NoSolution", "InvalidAmounts", "NotASolution", "PlanFinished", "NothingToUndo",
    "InvalidName", "DuplicateName", "UnknownName", "UnknownMark", "InvalidCommand", "InvalidLine",
]


class ErrorsTest(unittest.TestCase):
    def test_base_is_a_value_error(self):
        self.assertEqual(errors.WindowError.__bases__, (ValueError,))
        self.assertEqual(errors.WindowError.__module__, "windowsteps.errors")

    def test_each_error_is_a_direct_subclass_in_this_file(self):
        for name in PLAIN + ["ParseError", "NotAdmitted"]:
            with self.subTest(name=name):
                kind = getattr(errors, name)
                self.assertEqual(kind.__bases__, (errors.WindowError,))
                self.assertEqual((kind.__module__, kind.__name__), ("windowsteps.errors", name))

    def test_there_are_no_other_direct_subclasses(self):
        names = sorted(kind.__name__ for kind in errors.WindowError.__subclasses__())
        self.assertEqual(names, sorted(PLAIN + ["ParseError", "NotAdmitted"]))

    def test_plain_errors_are_constructed_with_a_string(self):
        for name in PLAIN:
            with self.subTest(name=name):
                error = getattr(errors, name)("what went wrong")
                self.assertEqual(str(error), "what went wrong")

    def test_parse_error_has_its_line(self):
        for line in (0, 1, 100):
            self.assertEqual(errors.ParseError(line).line, line)
        self.assertEqual(errors.ParseError(line=7).line, 7)
        with self.assertRaises(errors.WindowError) as caught:
            raise errors.ParseError(3)
        self.assertEqual(caught.exception.line, 3)

    def test_not_admitted_has_its_rule(self):
        for rule in (("a", "b", 0), (None, "b", -999), ("a", None, 999)):
            self.assertEqual(errors.NotAdmitted(rule).rule, rule)
        self.assertEqual(errors.NotAdmitted(rule=("a", "b", 5)).rule, ("a", "b", 5))
        with self.assertRaises(errors.WindowError) as caught:
            raise errors.NotAdmitted(("a", "b", 0))
        self.assertEqual(caught.exception.rule, ("a", "b", 0))


if __name__ == "__main__":
    unittest.main()
