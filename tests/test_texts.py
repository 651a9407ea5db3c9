"""Texts of systems: promise 12."""

import re
import unittest

from tests.oracles import far_system, small_systems
from tests.support import Case, objects
from windowsteps.errors import ParseError
from windowsteps.systems import System
from windowsteps.texts import format_system, parse_system

TEXT = "settings a ab b\n- a 3\n- b -10\n- b -9\na - -999\na b 0\nb - 12\nb ab 999"
HEADING = re.compile("settings((?: [a-z]{1,8})*)")
LINE = re.compile("(-|[a-z]{1,8}) (-|[a-z]{1,8}) (0|-?[1-9][0-9]{0,2})")


def first_wrong_line(text):
    """The index of the first line that cannot stand where it stands, or None."""
    lines = text.split("\n")
    heading = HEADING.fullmatch(lines[0])
    names = heading and heading.group(1).split()
    if not heading or names != sorted(set(names)):
        return 0
    before = None
    for at, line in enumerate(lines[1:], start=1):
        found = LINE.fullmatch(line)
        if not found or found.group(1) == found.group(2) or not {*found.groups()[:2]} <= {*names, "-"}:
            return at
        # "-" comes before all letters, as the ground comes before all names.
        order = (found.group(1), found.group(2), int(found.group(3)))
        if before is not None and order <= before:
            return at
        before = order
    return None


class TextCase(Case):
    def assert_wrong(self, text, line):
        with self.subTest(text=text):
            with self.assertRaises(ParseError) as caught:
                parse_system(text)
            self.assertIs(type(caught.exception), ParseError)
            self.assert_same(caught.exception.line, line)


class ExamplesTest(Case):
    def test_document(self):
        self.assert_examples("""
>>> from windowsteps.systems import System
>>> from windowsteps.texts import format_system, parse_system
>>> format_system(System(['b', 'a'], [('a', 'b', 2), ('b', None, -5)]))
'settings a b\\na b 2\\nb - -5'
>>> parse_system('settings a\\na b 1')
raises ParseError(1)
""")


class FormatTest(Case):
    def test_no_settings_and_no_rules(self):
        self.assert_same(format_system(System([], [])), "settings")
        self.assert_same(format_system(System(["b", "a"], [])), "settings a b")

    def test_names_and_rules_in_ascending_order(self):
        rules = [
            ("b", "ab", 999), ("a", "b", 0), ("b", None, 12), (None, "b", -9), (None, "b", -10), ("a", None, -999),
            (None, "a", 3), ("a", "b", 0),
        ]
        system = System(["b", "ab", "a"], rules)
        self.assert_same(format_system(system), TEXT)
        self.assert_same(format_system(system=system), TEXT)
        self.assertTrue(system == System(["b", "ab", "a"], rules))

    def test_a_setting_may_be_called_settings(self):
        system = System(["settings"], [("settings", None, 5)])
        self.assert_same(format_system(system), "settings settings\nsettings - 5")
        self.assertTrue(parse_system("settings settings\nsettings - 5") == system)


class ParseTest(TextCase):
    def test_texts_of_systems(self):
        self.assertTrue(parse_system("settings") == System([], []))
        self.assertTrue(parse_system("settings a b") == System(["a", "b"], []))
        system = parse_system("settings a b\n- b -7\na - 0\na b -999\na b 999\nb - 100")
        self.assertIsInstance(system, System)
        self.assert_same(system.names, ["a", "b"])
        rules = [(None, "b", -7), ("a", None, 0), ("a", "b", -999), ("a", "b", 999), ("b", None, 100)]
        self.assert_same(system.rules, rules)
        self.assert_same(parse_system(text="settings zzzzzzzz").names, ["zzzzzzzz"])

    def test_all_gaps(self):
        for gap in range(-999, 1000):
            self.assert_same(parse_system(f"settings a\na - {gap}").rules, [("a", None, gap)])

    def test_there_and_back(self):
        systems = [*small_systems(1, 200, settings=8, rules=20, gap=999), far_system(1)[0]]
        for system in systems:
            text = format_system(system)
            self.assertTrue(parse_system(text) == system)
            self.assert_same(format_system(parse_system(text)), text)

    def test_a_contradiction_is_no_error(self):
        self.assert_same(len(parse_system("settings a b\na b 1\nb a 1").rules), 2)

    def test_somewhat_more_than_the_usual_number(self):
        names = [first + second for first in "abcde" for second in "abcde"]
        system = System(names, [("aa", "ee", gap) for gap in range(-60, 60)])
        self.assertTrue(parse_system(format_system(system)) == system)


class WrongTextTest(TextCase):
    def test_any_objects(self):
        for thing in [*objects(), TEXT.split("\n"), (TEXT,), {TEXT: 0}, [TEXT]]:
            self.assert_wrong(thing, 0)
            self.assert_raises_exactly(ParseError, parse_system, thing)

    def test_headings(self):
        wrong = [
            "", " ", "\n", "setting a", "Settings a", "settings  a", " settings a", "settings ", "settings a ",
            "settings a  b", "settings\ta", "settings a\tb", "settings b a", "settings a a", "settings a b a",
            "settings abcdefghi", "settings A", "settings a1", "settings -", "settings 0", "settings a,b", "settingsa",
            "\nsettings a", "a b 1", "settings a\r", "settings ab aa", "settings settings settings", "- a 1",
        ]
        for heading in wrong:
            self.assert_wrong(heading, 0)
            self.assert_wrong(heading + "\na - 1\nwhat", 0)

    def test_gaps(self):
        wrong = [
            "", "+1", "-0", "+0", "00", "01", "-01", "001", "1.0", "1_0", " 1", "1 ", "--1", "-", "+", "1-", "1e1",
            "0x1", "1000", "-1000", "0999", "-0999", "99999", "9" * 5000, "-" + "9" * 5000, "0" * 5000, "a", "\t1",
            "1\t", "None", "True", "1\r", "- 1", "1 1",
        ]
        for gap in wrong:
            self.assert_wrong(f"settings a b\na b {gap}", 1)
            self.assert_wrong(f"settings a b\n- a 1\na b {gap}\nb a 1", 2)

    def test_ends(self):
        wrong = ["a a 1", "- - 1", "a c 1", "c a 1", "c - 1", "- c 1", "A b 1", "None b 1", " b 1", "a  1", "0 b 1"]
        wrong += ["a b", "a", "a b 1 1", "a  b 1", "a b  1", " a b 1", "a b 1 ", "a\tb 1", "a b\t1", "settings a b"]
        for line in wrong:
            self.assert_wrong(f"settings a b\n{line}", 1)
            self.assert_wrong(f"settings a b\n- b 5\n{line}\nb a 7", 2)

    def test_blanks_and_line_feeds_at_either_end(self):
        self.assert_wrong(" " + TEXT, 0)
        self.assert_wrong("\n" + TEXT, 0)
        self.assert_wrong("\t" + TEXT, 0)
        self.assert_wrong(TEXT + " ", 7)
        self.assert_wrong(TEXT + "\n", 8)
        self.assert_wrong(TEXT + "\n\n", 8)
        self.assert_wrong("settings\n", 1)
        self.assert_wrong("settings a\n\na - 1", 1)
        self.assert_wrong("settings a\n ", 1)

    def test_lines_out_of_order_or_twice(self):
        self.assert_wrong("settings a b\na b 1\na b 1", 2)
        self.assert_wrong("settings a b\na b 2\na b 1", 2)
        self.assert_wrong("settings a b\na b 9\na b 10\na b -1", 3)
        self.assert_wrong("settings a b\na b -9\na b -10", 2)
        self.assert_wrong("settings a b\nb a 1\na b 1", 2)
        self.assert_wrong("settings a b\na b 1\na - 1", 2)
        self.assert_wrong("settings a b\na b 1\n- b 1", 2)
        self.assert_wrong("settings a ab b\nb a 1\nab a 1", 2)

    def test_two_lines_exchanged_or_repeated(self):
        lines = TEXT.split("\n")
        for one in range(1, len(lines)):
            self.assert_wrong("\n".join(lines[:one + 1] + lines[one:]), one + 1)
            for two in range(one + 1, len(lines)):
                exchanged = list(lines)
                exchanged[one], exchanged[two] = lines[two], lines[one]
                self.assert_wrong("\n".join(exchanged), one + 1)

    def test_the_first_one_of_several_wrong_lines(self):
        self.assert_wrong("settings a b\na b 1\nwhat\na b 01", 2)
        self.assert_wrong("settings b a\nwhat", 0)
        self.assert_wrong("settings a b\na b 5\na b 1\nwhat", 2)

    def test_each_line_wrong_in_turn(self):
        lines = TEXT.split("\n")
        for at in range(len(lines)):
            good = lines[at]
            for line in ("", "what", good + " ", " " + good, good + "!", good.replace(" ", "  ", 1)):
                self.assert_wrong("\n".join([*lines[:at], line, *lines[at + 1:]]), at)

    def test_each_sign_changed_left_out_or_put_in(self):
        for text in (TEXT, "settings", "settings a b\n- a -1\na b 10"):
            for at in range(len(text) + 1):
                self.check(text[:at] + text[at + 1:])
                for sign in " \n\t-+019abcsA._":
                    self.check(text[:at] + sign + text[at:])
                    self.check(text[:at] + sign + text[at + 1:])

    def check(self, text):
        line = first_wrong_line(text)
        if line is not None:
            self.assert_wrong(text, line)
        else:
            self.assert_same(format_system(parse_system(text)), text)

    def test_long_texts(self):
        self.assert_quick(self.assert_wrong, "settings a\n" + "9" * 1000000, 1)
        self.assert_quick(self.assert_wrong, "settings" + " a" * 100000, 0)
        self.assert_quick(self.assert_wrong, "settings a" + "\na - 1" * 50000, 2)


if __name__ == "__main__":
    unittest.main()
