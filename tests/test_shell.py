"""Shells: promise 27."""

import random
import re
import unittest

from tests import oracles
from tests.accounts import told
from tests.support import Case, objects
from windowsteps.board import Board
from windowsteps.errors import (
    Contradiction, DuplicateName, InvalidLine, InvalidName, InvalidNumbers, InvalidPrices, InvalidStep,
    InvalidSystem, NotAdmitted, ParseError, UnknownMark, UnknownName, UnknownRule, UnknownSetting, WindowError,
)
from windowsteps.shell import Shell
from windowsteps.texts import format_system

WORD = "[^ \n]+"
NUMBER = "(?:0|-?[1-9][0-9]{0,4})"
FORMS = [
    f"create {WORD} {WORD}", f"rule {WORD} {WORD} {WORD} {NUMBER}", f"free {WORD} {WORD} {WORD} {NUMBER}",
    f"move {WORD} {WORD} {NUMBER}", f"drop {WORD}", f"mark {WORD}", f"back {WORD}", f"lead {WORD}(?: {NUMBER})*",
    f"settle {WORD} {NUMBER} {NUMBER}", f"show {WORD}", f"system {WORD}", f"window {WORD} {WORD}", f"blocks {WORD}",
    f"spent {WORD}", "names",
]


def is_line(text):
    return any(re.fullmatch(form, text) for form in FORMS)


def new_shell():
    """A shell with a system, one without settings, and one with a contradiction."""
    shell = Shell()
    for line in ("create main settings.a.b/a.b.0", "create none settings", "create wrong settings.a.b/a.b.1/b.a.0"):
        shell.run(line)
    return shell


def state_of(shell):
    rows = [shell.run("names")]
    for name in shell.run("names").split(" "):
        if name != "-":
            rows.append([shell.run(f"{word} {name}") for word in ("system", "show", "spent")])
    return rows


class ShellCase(Case):
    def assert_runs(self, shell, lines):
        """Checks pairs of lines and answers."""
        for line, answer in lines:
            with self.subTest(line=line):
                self.assert_same(shell.run(line), answer)

    def assert_fails(self, kind, shell, *lines, detail=None):
        for line in lines:
            before = state_of(shell)
            self.assert_raises_exactly(kind, shell.run, line)
            with self.assertRaises(kind) as caught:
                shell.run(line)
            self.assert_same(told(caught.exception)[1], detail)
            self.assertEqual(state_of(shell), before)


class ExamplesTest(Case):
    def test_document(self):
        self.assert_examples("""
>>> from windowsteps.shell import Shell
>>> shell = Shell()
>>> [shell.run('create main settings.a.b/a.b.0'), shell.run('rule main - a 3'), shell.run('settle main 1 1')]
['ok', 'ok', '6']
>>> [shell.run('show main'), shell.run('window main b'), shell.run('blocks main'), shell.run('lead main 3 5')]
['3 3', '3 -', 'a b', '2']
""")


class LinesTest(ShellCase):
    def test_an_empty_board(self):
        self.assert_runs(Shell(), [("names", "-"), ("mark m", "ok"), ("back m", "ok")])

    def test_each_shell_has_a_board_of_its_own(self):
        one, two = Shell(), Shell()
        one.run("create main settings.a")
        self.assert_runs(two, [("names", "-"), ("create main settings", "ok"), ("show main", "-")])
        self.assert_runs(one, [("show main", "0")])

    def test_create_and_system(self):
        texts = [
            "settings", "settings.a", "settings.a.b/-.a.-999/-.b.0/a.-.999/a.b.-1/a.b.2/b.-.-5", "settings.abcdefgh.b",
        ]
        for text in texts:
            shell = Shell()
            self.assert_runs(shell, [(f"create main {text}", "ok"), ("system main", text), ("names", "main")])

    def test_rules(self):
        self.assert_runs(new_shell(), [
            ("rule main - a -3", "ok"), ("rule main b - 999", "ok"), ("rule main b a -999", "ok"), ("rule main a b 0", "ok"),
            ("system main", "settings.a.b/-.a.-3/a.b.0/b.-.999/b.a.-999"), ("free main b - 999", "ok"),
            ("free main a b 0", "ok"), ("free main - a -3", "ok"), ("system main", "settings.a.b/b.a.-999"),
        ])

    def test_moves_and_numbers(self):
        self.assert_runs(new_shell(), [
            ("show main", "0 0"), ("move main b 1", "ok"), ("move main a -1", "ok"), ("show main", "-1 1"),
            ("lead main -5 99999", "100002"), ("show main", "-5 99999"), ("lead main -99999 -99999", "299992"),
            ("show main", "-99999 -99999"), ("lead main 0 0", "199998"), ("show none", "-"), ("lead none", "0"),
        ])

    def test_settlements(self):
        self.assert_runs(new_shell(), [
            ("spent main", "0"), ("rule main a b 4", "ok"), ("settle main 7 2", "8"), ("show main", "-4 0"),
            ("spent main", "8"), ("settle main 999 999", "0"), ("rule main - b 1", "ok"), ("settle main 10 1", "10"),
            ("spent main", "18"), ("settle none 1 1", "0"), ("spent none", "0"),
        ])

    def test_windows(self):
        shell = new_shell()
        self.assert_runs(shell, [("window main a", "- -"), ("rule main - a -2", "ok"), ("window main a", "-2 -")])
        self.assert_runs(shell, [("window main b", "-2 -"), ("rule main b - -7", "ok"), ("window main b", "-2 7")])
        self.assert_runs(shell, [("window main a", "-2 7"), ("free main - a -2", "ok"), ("window main a", "- 7")])
        self.assert_runs(shell, [("rule main - a 0", "ok"), ("rule main a - 0", "ok"), ("window main a", "0 0")])

    def test_blocks(self):
        self.assert_runs(new_shell(), [
            ("blocks main", "a b"), ("blocks none", "-"), ("rule main b a 0", "ok"), ("blocks main", "a"),
            ("rule main - b 5", "ok"), ("rule main b - -5", "ok"), ("blocks main", "-"),
        ])

    def test_names_marks_and_drop(self):
        self.assert_runs(new_shell(), [
            ("names", "main none wrong"), ("mark main", "ok"), ("drop wrong", "ok"), ("drop none", "ok"), ("names", "main"),
            ("rule main - a 3", "ok"), ("settle main 1 1", "6"), ("drop main", "ok"), ("names", "-"), ("back main", "ok"),
            ("names", "main none wrong"), ("spent main", "0"), ("system main", "settings.a.b/a.b.0"), ("back main", "ok"),
        ])

    def test_words_of_the_shell_as_names(self):
        for word in ("create", "rule", "free", "move", "drop", "mark", "back", "lead", "settle", "show", "system", "window",
                     "blocks", "spent", "names", "settings"):
            self.assert_runs(Shell(), [
                (f"create {word} settings.{word}/{word}.-.9", "ok"), ("names", word), (f"show {word}", "0"),
                (f"rule {word} - {word} -9", "ok"), (f"free {word} {word} - 9", "ok"), (f"move {word} {word} 1", "ok"),
                (f"lead {word} 4", "3"), (f"window {word} {word}", "-9 -"), (f"blocks {word}", word), (f"spent {word}", "0"),
                (f"settle {word} 2 3", "0"), (f"mark {word}", "ok"), (f"drop {word}", "ok"), (f"back {word}", "ok"),
                (f"system {word}", f"settings.{word}/-.{word}.-9"),
            ])

    def test_parameters_by_name(self):
        self.assert_same(Shell().run(line="names"), "-")


class InvalidLineTest(ShellCase):
    def test_blanks(self):
        lines = ["", " ", "  ", " names", "names ", "show  main", " show main", "show main ", "move main  a 1", "show  ",
                 "create main settings ", "\n", "names\n", "\nnames", "show\nmain", "show main\n", "create x\n settings"]
        self.assert_fails(InvalidLine, new_shell(), *lines)

    def test_tabs_are_signs_of_words(self):
        shell = new_shell()
        self.assert_fails(InvalidLine, shell, "\t", "names\t", "show\tmain", "\tshow main", "move main a 1\t", "lead main \t1 2")
        self.assert_fails(UnknownName, shell, "show main\t", "show \t", "drop m\tain")
        self.assert_fails(InvalidName, shell, "create \t settings", "mark m\t")
        self.assert_fails(ParseError, shell, "create x settings.a\tb", "create x settings\t", detail=0)
        self.assert_fails(InvalidStep, shell, "move main a\t 1")
        self.assert_fails(UnknownSetting, shell, "window main \ta")

    def test_first_words(self):
        lines = ["name", "Names", "NAMES", "require main - a 1", "batch", "batch x", "log", "copy", "system_of main",
                 "numbers_of main", "-", "0", "main", "ok", "settings", "quit", "help"]
        self.assert_fails(InvalidLine, new_shell(), *lines)

    def test_numbers_of_words(self):
        whole = {
            "create": "x settings", "rule": "main - a 1", "free": "main a b 0", "move": "main b 1", "drop": "main", "mark": "m",
            "back": "m", "settle": "main 1 1", "show": "main", "system": "main", "window": "main a", "blocks": "main",
            "spent": "main",
        }
        shell = new_shell()
        for first, rest in whole.items():
            words = rest.split(" ")
            for many in range(len(words)):
                self.assert_fails(InvalidLine, shell, " ".join([first, *words[:many]]))
            for more in ("x", "1", "-"):
                self.assert_fails(InvalidLine, shell, f"{first} {rest} {more}")
        self.assert_fails(InvalidLine, shell, "lead", "names x", "names 1", "names names")

    def test_numbers(self):
        shell = new_shell()
        wrong = ["00", "01", "-0", "-01", "+1", "+0", "--1", "1.0", "1e3", "0x1", "1_0", "-", "a", "100000", "-100000", "999999",
                 "1" * 70, "9" * 5000, "-" + "9" * 5000, "1-", "1,", "\t1", "1\t", "None", "True", "~"]
        for number in wrong:
            for line in ("rule main - a {}", "free main a b {}", "move main b {}", "lead main {} 5", "lead main 1 {}",
                         "settle main {} 1", "settle main 1 {}", "lead none {}"):
                self.assert_fails(InvalidLine, shell, line.format(number))

    def test_numbers_at_the_ends_of_the_range(self):
        shell = new_shell()
        self.assert_runs(shell, [("lead main -99999 99999", "199998"), ("show main", "-99999 99999")])
        for number in ("99999", "-99999", "1000", "-1000"):
            self.assert_fails(InvalidSystem, shell, f"rule main - a {number}")
            self.assert_fails(UnknownRule, shell, f"free main - a {number}")
            self.assert_fails(InvalidStep, shell, f"move main a {number}")
            self.assert_fails(InvalidPrices, shell, f"settle main {number} 1", f"settle main 1 {number}")

    def test_it_comes_before_all_other_errors(self):
        self.assert_fails(InvalidLine, new_shell(), "rule unknown x y 01", "create main", "create X", "move X a +1",
                          "lead unknown 1 01", "settle unknown 0 -0", "window unknown", "drop", "rule main a a 100000")

    def test_any_objects(self):
        shell = new_shell()
        for thing in [*objects(), ["names"], ("names",), {"names": 0}, shell, Board()]:
            self.assert_fails(InvalidLine, shell, thing)

    def test_letters_of_other_alphabets(self):
        self.assert_fails(InvalidLine, new_shell(), "move main b \u0661", "move main b \u00b9", "lead main \u0661 1")


class ErrorsTest(ShellCase):
    def test_create(self):
        shell = new_shell()
        self.assert_fails(InvalidName, shell, "create Main settings", "create - settings", "create abcdefghi x", "create 7 7")
        self.assert_fails(DuplicateName, shell, "create main settings", "create main x")
        for text, line in (("x", 0), ("settings.b.a", 0), ("settings.a/a.b.1", 1), ("settings.a.b/a.b.1/", 2),
                           ("settings./", 0), ("/settings", 0), (".settings", 0), ("settings.a.b/a.b.1/a.b.01", 2),
                           ("settings.a.b/a.b.1/a.b.1", 2), ("settings.a.b/a.b.1000", 1), ("settings..a", 0), ("-", 0)):
            self.assert_fails(ParseError, shell, f"create new {text}", detail=line)

    def test_rules(self):
        shell = new_shell()
        self.assert_fails(UnknownName, shell, "rule x - a 1", "free x - a 1", "rule - - - 5", "free Main a b 0")
        self.assert_fails(InvalidSystem, shell, "rule main - - 1", "rule main a a 1", "rule main a c 1", "rule main A b 1",
                          "rule main a b 1000", "rule main -- a 1", "rule none - a 0", "rule main None a 1")
        self.assert_fails(UnknownRule, shell, "free main a b 1", "free main - - 1", "free main - a 0", "free main x y 1",
                          "free none - a 0")

    def test_moves(self):
        shell = new_shell()
        self.assert_fails(UnknownName, shell, "move x a 1", "move x y 7")
        self.assert_fails(Contradiction, shell, "move wrong a 1", "move wrong x 7")
        self.assert_fails(InvalidStep, shell, "move main a 0", "move main a 2", "move main c 1", "move main - 1", "move none a 1")
        self.assert_fails(NotAdmitted, shell, "move main a 1", detail=("a", "b", 0))

    def test_leads(self):
        shell = new_shell()
        self.assert_fails(UnknownName, shell, "lead x", "lead x 1 2", "lead x 1 2 3")
        self.assert_fails(InvalidNumbers, shell, "lead main", "lead main 1", "lead main 1 2 3", "lead none 0", "lead wrong 1",
                          "lead main" + " 0" * 300)
        self.assert_fails(NotAdmitted, shell, "lead main 1 0", detail=("a", "b", 0))
        self.assert_fails(NotAdmitted, shell, "lead wrong 0 0", detail=("a", "b", 1))

    def test_settlements(self):
        shell = new_shell()
        self.assert_fails(UnknownName, shell, "settle x 1 1", "settle x 0 0")
        self.assert_fails(InvalidPrices, shell, "settle main 0 1", "settle main 1 0", "settle wrong -1 1", "settle main 1 1000")
        self.assert_fails(Contradiction, shell, "settle wrong 1 1")

    def test_drop_and_marks(self):
        shell = new_shell()
        shell.run("mark m")
        self.assert_fails(UnknownName, shell, "drop x", "drop m", "drop -")
        self.assert_fails(InvalidName, shell, "mark M", "mark -", "mark 1", "mark abcdefghi")
        self.assert_fails(DuplicateName, shell, "mark m")
        self.assert_fails(UnknownMark, shell, "back main", "back x", "back -")

    def test_queries(self):
        shell = new_shell()
        for word in ("show", "system", "blocks", "spent"):
            self.assert_fails(UnknownName, shell, f"{word} x", f"{word} -", f"{word} Main", f"{word} m")
        self.assert_fails(UnknownName, shell, "window x a", "window x -")
        self.assert_fails(UnknownSetting, shell, "window main c", "window main -", "window none a", "window wrong c")
        self.assert_fails(Contradiction, shell, "window wrong a", "blocks wrong")
        self.assert_runs(shell, [("show wrong", "0 0"), ("system wrong", "settings.a.b/a.b.1/b.a.0"), ("spent wrong", "0")])


class SecondAccountTest(ShellCase):
    def test_small_systems_by_all_chains(self):
        checked = 0
        for system in oracles.small_systems(100, 150):
            shell = Shell()
            text = format_system(system).replace("\n", "/").replace(" ", ".")
            self.assert_runs(shell, [(f"create x {text}", "ok"), ("system x", text)])
            if oracles.has_contradiction(system):
                self.assert_fails(Contradiction, shell, "blocks x", *[f"window x {name}" for name in system.names])
                continue
            gaps = oracles.tightest_gaps(system)
            for name in system.names:
                least, most = gaps.get((None, name)), gaps.get((name, None))
                bounds = ["-" if least is None else str(least), "-" if most is None else str(-most)]
                self.assert_runs(shell, [(f"window x {name}", " ".join(bounds))])
                checked += 1
            blocks = oracles.blocks_and_grounded(system)[0]
            self.assert_runs(shell, [("blocks x", " ".join(block[0] for block in blocks) or "-")])
        self.assertGreater(checked, 100)

    def test_random_lines_on_a_board(self):
        seen = {}
        for seed in range(80):
            chance = random.Random(seed)
            shell, board = Shell(), Board()
            for _ in range(40):
                line = any_line(chance)
                outcome = outcome_of(shell.run, line)
                self.assertEqual(outcome, outcome_of(lambda text: run_on(board, text), line), line)
                kind = outcome if isinstance(outcome, str) else outcome[0]
                key = line.split(" ")[0], kind if isinstance(outcome, tuple) else "answer"
                seen[key] = seen.get(key, 0) + 1
        for form in FORMS:
            self.assertGreater(seen.get((form.split(" ")[0], "answer"), 0), 3, form)
        self.assertGreater(sum(many for (_, kind), many in seen.items() if kind == "InvalidLine"), 100)


def outcome_of(call, line):
    try:
        return call(line)
    except WindowError as error:
        return told(error)


def any_line(chance):
    """A line that is mostly one of the shell."""
    name = chance.choice(["x", "y", "x", "y", "z", "-"])
    setting = chance.choice(["a", "b", "c", "-", "a", "b"])
    other = chance.choice(["a", "b", "c", "-", "b"])
    number = chance.choice(["0", "1", "-1", "2", "1", "-2"])
    text = chance.choice(["settings.a.b", "settings.a.b/a.b.0", "settings.a.b.c/a.c.1/b.a.-3", "settings", "settings.a/"])
    line = chance.choice([
        f"create {name} {text}", f"create {name} {text}", f"rule {name} {setting} {other} {number}",
        f"rule {name} {setting} {other} {number}", f"free {name} {setting} {other} {number}", f"free {name} a b 0",
        f"move {name} {setting} {number}", f"move {name} {setting} {number}", f"drop {name}", f"mark {setting}",
        f"back {setting}", f"lead {name} {number} {chance.choice('0123')}", f"lead {name} {number} 1 2", f"lead {name}",
        f"settle {name} {chance.choice('123')} {chance.choice('1230')}", f"show {name}", f"system {name}",
        f"window {name} {setting}", f"blocks {name}", f"spent {name}", "names",
    ])
    if chance.random() < 0.1:
        at = chance.randrange(len(line) + 1)
        line = line[:at] + chance.choice([" ", "\t", "0", "-", "x", "\n", "+", ""]) + line[at + chance.randint(0, 1):]
    return line


def run_on(board, line):
    """What a line does to a board, and its answer."""
    if not is_line(line):
        raise InvalidLine("no line")
    first, *rest = line.split(" ")
    if first == "names":
        return " ".join(board.names) or "-"
    name, *rest = rest
    if first in ("rule", "free"):
        low, high = [None if word == "-" else word for word in rest[:2]]
        call = board.require if first == "rule" else board.free
        call(name, (low, high, int(rest[2])))
    elif first == "create":
        board.create(name, rest[0].replace(".", " ").replace("/", "\n"))
    elif first == "move":
        board.move(name, rest[0], int(rest[1]))
    elif first in ("drop", "mark", "back"):
        {"drop": board.drop, "mark": board.mark, "back": board.back}[first](name)
    elif first == "lead":
        settings = board.system_of(name).names
        if len(rest) != len(settings):
            raise InvalidNumbers("too many or too few")
        return str(board.lead(name, dict(zip(settings, map(int, rest)))))
    elif first == "settle":
        return str(board.settle(name, raising=int(rest[0]), lowering=int(rest[1])))
    else:
        return answer_of(board.system_of(name), board.numbers_of(name), board.spent_on(name), first, rest)
    return "ok"


def answer_of(system, numbers, spent, first, rest):
    """The answer of a query, from the second account of chains."""
    if first == "show":
        return " ".join(map(str, numbers.values())) or "-"
    if first == "spent":
        return str(spent)
    if first == "system":
        return format_system(system).replace(" ", ".").replace("\n", "/")
    if first == "window" and rest[0] not in system.names:
        raise UnknownSetting("no setting")
    if oracles.has_contradiction(system):
        raise Contradiction("a contradiction")
    if first == "blocks":
        return " ".join(block[0] for block in oracles.blocks_and_grounded(system)[0]) or "-"
    gaps = oracles.tightest_gaps(system)
    least, most = gaps.get((None, rest[0])), gaps.get((rest[0], None))
    return f"{'-' if least is None else least} {'-' if most is None else -most}"


class LargeTest(ShellCase):
    def test_twenty_settings_with_a_hundred_rules(self):
        for seed in range(5):
            system, numbers = oracles.far_system(seed, rules=100)
            shell = Shell()
            text = format_system(system).replace("\n", "/").replace(" ", ".")
            for line in (
                f"create main {text}", "settle main 5 3", "lead main " + " ".join(map(str, numbers.values())), "show main",
                "system main", "blocks main", "spent main", "mark m", "free main " + " ".join(text.split("/")[1].split(".")),
                "back m", *[f"window main {name}" for name in system.names],
            ):
                self.assert_quick(shell.run, line)
            self.assert_runs(shell, [("system main", text), ("show main", " ".join(map(str, numbers.values())))])


if __name__ == "__main__":
    unittest.main()
