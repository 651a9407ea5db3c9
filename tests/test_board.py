"""Boards: promises 25 and 26."""

import itertools
import random
import unittest

from tests import oracles
from tests.accounts import BoardAccount, Failure, told
from tests.support import Case, objects
from windowsteps.board import Board
from windowsteps.errors import (
    Contradiction, DuplicateName, InvalidCommand, InvalidName, InvalidNumbers, InvalidPrices, InvalidStep,
    InvalidSystem, NotAdmitted, ParseError, UnknownMark, UnknownName, UnknownRule, WindowError,
)
from windowsteps.systems import System
from windowsteps.texts import format_system

TEXT = "settings a b\na b 0"
PAIR = System(["a", "b"], [("a", "b", 0)])
WRONG_TEXT = "settings a b\na b 1\nb a 0"
LABELS = ("m", "main", "other", "mark", "back")


def new_board():
    """A board with a system, and with another one that holds a contradiction."""
    board = Board()
    board.create("main", TEXT)
    board.create("wrong", WRONG_TEXT)
    return board


def visible(board):
    """All that a board tells, its log excepted."""
    rows = []
    for name in board.names:
        system = board.system_of(name)
        rows.append([name, system.names, system.rules, board.numbers_of(name), board.spent_on(name)])
    return rows


def whole(board):
    """All that a board tells, its log excepted, and all that its marks with common labels restore."""
    rows = [visible(board)]
    for label in LABELS:
        copied = board.copy()
        try:
            copied.back(label)
        except UnknownMark:
            continue
        rows.append([label, visible(copied)])
    return rows


class BoardCase(Case):
    def assert_system(self, board, name, system, numbers, spent):
        self.assertTrue(board.system_of(name) == system)
        self.assert_same([board.numbers_of(name), board.spent_on(name)], [numbers, spent])

    def assert_fails(self, kind, board, entries, call, *arguments, **more):
        """Checks for an error, after which nothing is changed but for entries in the log."""
        before, log = whole(board), board.log
        self.assert_raises_exactly(kind, call, *arguments, **more)
        self.assertEqual(whole(board), before)
        self.assert_same(board.log, log + entries)

    def assert_command_fails(self, kind, board, command, *arguments, **more):
        self.assert_fails(kind, board, [command, "failed"], getattr(board, command), *arguments, **more)

    def assert_error(self, wanted, board, command, *arguments):
        """Checks for an error with a line or a rule."""
        kind, detail = wanted
        self.assert_command_fails(kind, board, command, *arguments)
        with self.assertRaises(kind) as caught:
            getattr(board, command)(*arguments)
        self.assert_same(told(caught.exception), (kind.__name__, detail))

    def assert_batch_fails(self, kind, board, entries, commands):
        self.assert_fails(kind, board, ["batch", *entries, "failed"], board.batch, commands)


class ExamplesTest(Case):
    def test_document(self):
        self.assert_examples("""
>>> from windowsteps.board import Board
>>> board = Board()
>>> board.create('main', 'settings a b\\na b 0')
>>> board.move('main', 'a', 1)
raises NotAdmitted(('a', 'b', 0))
>>> [board.lead('main', {'a': 1, 'b': 1}), board.numbers_of('main')]
[2, {'a': 1, 'b': 1}]
""")


class CreateAndDropTest(BoardCase):
    def test_a_new_board(self):
        board = Board()
        self.assert_same([board.names, board.log], [[], []])

    def test_systems_by_name(self):
        board = Board()
        self.assertIsNone(board.create("main", TEXT))
        self.assertIsNone(board.create("abcdefgh", "settings"))
        self.assert_same(board.names, ["abcdefgh", "main"])
        self.assert_system(board, "main", PAIR, {"a": 0, "b": 0}, 0)
        self.assert_system(board, "abcdefgh", System([], []), {}, 0)
        self.assertIsNone(board.drop("main"))
        self.assert_same(board.names, ["abcdefgh"])
        self.assert_command_fails(UnknownName, board, "drop", "main")
        board.create("main", "settings z")
        self.assert_system(board, "main", System(["z"], []), {"z": 0}, 0)

    def test_the_number_0_need_not_be_admitted(self):
        board = Board()
        board.create("main", "settings a\n- a 3")
        self.assert_system(board, "main", System(["a"], [(None, "a", 3)]), {"a": 0}, 0)

    def test_wrong_names(self):
        board = new_board()
        for thing in [*objects(), "abcdefghi", "A", "a1", "", " a", "a\n", "-", ["main"], ("main",), board, True]:
            if thing not in ("a", "b", "ab"):
                for text in (TEXT, None, 7):
                    self.assert_command_fails(InvalidName, board, "create", thing, text)

    def test_names_that_are_taken(self):
        board = new_board()
        for text in (TEXT, None, "no system"):
            self.assert_command_fails(DuplicateName, board, "create", "main", text)

    def test_wrong_texts(self):
        board = new_board()
        cases = [
            ("", 0), ("settings b a", 0), ("settings a\na b 1", 1), (TEXT + "\n", 2), (TEXT + "\na b 0", 2), (None, 0),
            ("settings a b\n- a 01", 1), ("settings a b\na - 3\n- a 3", 2), (["settings"], 0), (True, 0),
        ]
        for text, line in cases:
            self.assert_error((ParseError, line), board, "create", "new", text)
        for thing in objects():
            self.assert_error((ParseError, 0), board, "create", "new", thing)

    def test_drop(self):
        board = new_board()
        for thing in [*objects(), "new", "m", ["main"], ("main",), board]:
            self.assert_command_fails(UnknownName, board, "drop", thing)


class RulesTest(BoardCase):
    def test_require_and_free(self):
        board = new_board()
        self.assertIsNone(board.require("main", ("b", None, 5)))
        self.assert_system(board, "main", PAIR.with_rules(("b", None, 5)), {"a": 0, "b": 0}, 0)
        self.assertIsNone(board.require("main", ("b", None, 5)))
        self.assertIsNone(board.free("main", ("a", "b", 0)))
        self.assert_system(board, "main", System(["a", "b"], [("b", None, 5)]), {"a": 0, "b": 0}, 0)

    def test_systems_that_were_returned_do_not_change(self):
        board = new_board()
        system = board.system_of("main")
        board.require("main", (None, "a", 1))
        board.drop("main")
        self.assertTrue(system == PAIR)

    def test_wrong_rules(self):
        board = new_board()
        rules = [("a", "c", 0), ("a", "b", True), ("a", "b", False), ("a", "b", 1000), ("a", "a", 0), ["a", "b", 0]]
        for thing in [*objects(), *rules, PAIR, board]:
            self.assert_command_fails(InvalidSystem, board, "require", "main", thing)
            self.assert_command_fails(UnknownRule, board, "free", "main", thing)
        for rule in (("a", "b", 1), ("b", "a", 0), (None, "a", 0)):
            self.assert_command_fails(UnknownRule, board, "free", "main", rule)

    def test_unknown_names_come_first(self):
        board = new_board()
        for thing in [*objects(), "new", ["main"], board]:
            for rule in (("a", "b", 0), None, True):
                self.assert_command_fails(UnknownName, board, "require", thing, rule)
                self.assert_command_fails(UnknownName, board, "free", thing, rule)


class MoveTest(BoardCase):
    def test_steps(self):
        board = new_board()
        self.assertIsNone(board.move("main", "b", 1))
        self.assertIsNone(board.move("main", "a", 1))
        self.assert_system(board, "main", PAIR, {"a": 1, "b": 1}, 0)
        self.assert_error((NotAdmitted, ("a", "b", 0)), board, "move", "main", "b", -1)

    def test_steps_that_make_no_shortfall_greater(self):
        board = new_board()
        board.require("main", (None, "a", 2))
        self.assert_error((NotAdmitted, (None, "a", 2)), board, "move", "main", "a", -1)
        board.move("main", "b", 1)
        board.move("main", "a", 1)
        self.assert_same(board.numbers_of("main"), {"a": 1, "b": 1})

    def test_what_is_no_step(self):
        board = new_board()
        for thing in [*objects(), "c", ["a"], ("a", 1), board]:
            if thing not in ("a", "b"):
                self.assert_command_fails(InvalidStep, board, "move", "main", thing, 1)
            if repr(thing) not in ("1", "-1"):
                self.assert_command_fails(InvalidStep, board, "move", "main", "b", thing)

    def test_the_order_of_errors(self):
        board = new_board()
        for thing in [*objects(), "new", ["main"], board]:
            self.assert_command_fails(UnknownName, board, "move", thing, "a", 1)
            self.assert_command_fails(UnknownName, board, "move", thing, None, None)
        for block, change in (("a", 1), ("x", 1), ("a", 5), (None, True)):
            self.assert_command_fails(Contradiction, board, "move", "wrong", block, change)
        self.assert_command_fails(UnknownName, board, "move", "new", "x", True)


class LeadTest(BoardCase):
    def test_numbers_of_steps(self):
        board = new_board()
        self.assert_same(board.lead("main", {"b": 5, "a": -3}), 8)
        self.assert_system(board, "main", PAIR, {"a": -3, "b": 5}, 0)
        self.assert_same(board.lead("main", {"a": -3, "b": 5}), 0)
        board.require("main", ("b", "a", -8))
        self.assert_same(board.lead("main", {"a": -1, "b": 7}), 2 + 2)
        tied = Board()
        tied.create("tied", "settings a b\na b 0\nb a 0")
        self.assert_same(tied.lead("tied", {"a": 1000, "b": 1000}), 1000)
        self.assert_same(tied.numbers_of("tied"), {"a": 1000, "b": 1000})

    def test_arguments_are_copied(self):
        board = new_board()
        numbers = {"b": 5, "a": 1}
        board.lead("main", numbers)
        numbers["a"] = 4
        self.assert_same(board.numbers_of("main"), {"a": 1, "b": 5})
        self.assertEqual(repr(numbers), "{'b': 5, 'a': 4}")

    def test_wrong_numbers(self):
        board = new_board()
        for thing in [*objects(), {"a": True, "b": 1}, {"a": 0}, [0, 0], board]:
            self.assert_command_fails(InvalidNumbers, board, "lead", "main", thing)
            self.assert_command_fails(InvalidNumbers, board, "lead", "wrong", thing)

    def test_numbers_that_are_not_admitted(self):
        board = new_board()
        self.assert_error((NotAdmitted, ("a", "b", 0)), board, "lead", "main", {"a": 1, "b": 0})
        board.require("main", (None, "b", 2))
        # The current numbers come first.
        self.assert_error((NotAdmitted, (None, "b", 2)), board, "lead", "main", {"a": 0, "b": 9})
        self.assert_error((NotAdmitted, (None, "b", 2)), board, "lead", "main", {"a": 9, "b": 0})
        board.settle("main")
        self.assert_same(board.lead("main", {"a": 0, "b": 9}), 7)
        self.assert_error((NotAdmitted, ("a", "b", 1)), board, "lead", "wrong", {"a": 0, "b": 0})

    def test_unknown_names_come_first(self):
        board = new_board()
        for thing in [*objects(), "new", ["main"], board]:
            self.assert_command_fails(UnknownName, board, "lead", thing, {"a": 1, "b": 1})
            self.assert_command_fails(UnknownName, board, "lead", thing, None)


class SettleTest(BoardCase):
    def test_prices(self):
        board = new_board()
        board.require("main", ("a", "b", 4))
        more = PAIR.with_rules(("a", "b", 4))
        self.assert_same(board.settle("main", raising=7, lowering=2), 8)
        self.assert_system(board, "main", more, {"a": -4, "b": 0}, 8)
        board.require("main", (None, "a", 1))
        self.assert_same(board.settle("main", lowering=5), 10)
        self.assert_same(board.settle("main"), 0)
        self.assert_system(board, "main", more.with_rules((None, "a", 1)), {"a": 1, "b": 5}, 18)

    def test_prices_left_out(self):
        for more in ({}, {"raising": 1}, {"lowering": 1}, {"lowering": 1, "raising": 1}):
            board = Board()
            board.create("main", "settings a\n- a 3")
            self.assert_same(board.settle("main", **more), 3)
            self.assert_system(board, "main", System(["a"], [(None, "a", 3)]), {"a": 3}, 3)

    def test_prices_by_position(self):
        with self.assertRaises(TypeError):
            new_board().settle("main", 1)

    def test_wrong_prices(self):
        board = new_board()
        for thing in [*objects(), None, 1000, True, False, "1", [1], board]:
            if repr(thing) not in ("1", "999"):
                for name in ("main", "wrong"):
                    self.assert_command_fails(InvalidPrices, board, "settle", name, raising=thing)
                    self.assert_command_fails(InvalidPrices, board, "settle", name, lowering=thing)
                    self.assert_command_fails(InvalidPrices, board, "settle", name, raising=thing, lowering=5)

    def test_the_order_of_errors(self):
        board = new_board()
        self.assert_command_fails(Contradiction, board, "settle", "wrong")
        for thing in [*objects(), "new", ["main"], board]:
            self.assert_command_fails(UnknownName, board, "settle", thing)
            self.assert_command_fails(UnknownName, board, "settle", thing, raising=True)

    def test_the_sum_spent_begins_with_create(self):
        board = Board()
        for _ in range(2):
            board.create("main", "settings a\n- a 3")
            self.assert_same(board.spent_on("main"), 0)
            board.settle("main", raising=2)
            self.assert_same(board.spent_on("main"), 6)
            board.move("main", "a", 1)
            board.free("main", (None, "a", 3))
            board.lead("main", {"a": -5})
            self.assert_same(board.spent_on("main"), 6)
            board.drop("main")


class MarksTest(BoardCase):
    def test_a_mark_is_restored_several_times(self):
        board = new_board()
        board.require("main", (None, "a", 2))
        board.settle("main")
        marked = visible(board)
        self.assertIsNone(board.mark("m"))
        for _ in range(3):
            board.settle("main", raising=9)
            board.move("main", "b", 1)
            board.require("main", ("b", None, 0))
            board.drop("wrong")
            board.create("new", TEXT)
            self.assertIsNone(board.back("m"))
            self.assertEqual(visible(board), marked)
        self.assert_same(board.spent_on("main"), 4)

    def test_after_its_systems_were_dropped(self):
        board = new_board()
        board.lead("main", {"a": 1, "b": 2})
        board.mark("main")
        board.drop("main")
        board.drop("wrong")
        board.create("main", "settings z")
        board.back("main")
        self.assert_system(board, "main", PAIR, {"a": 1, "b": 2}, 0)
        self.assert_same(board.names, ["main", "wrong"])

    def test_marks_stay_when_another_one_is_restored(self):
        board = Board()
        board.mark("m")
        board.create("main", TEXT)
        board.mark("other")
        board.back("m")
        self.assert_same(board.names, [])
        board.back("other")
        self.assert_same(board.names, ["main"])
        self.assert_command_fails(DuplicateName, board, "mark", "m")
        self.assert_command_fails(DuplicateName, board, "mark", "other")

    def test_names_and_labels_are_independent(self):
        board = new_board()
        board.mark("main")
        board.mark("new")
        board.create("new", TEXT)
        self.assert_command_fails(UnknownMark, board, "back", "wrong")
        board.drop("main")
        board.mark("wrong")
        board.back("main")
        self.assert_same(board.names, ["main", "wrong"])

    def test_wrong_labels(self):
        board = new_board()
        board.mark("m")
        for thing in [*objects(), "abcdefghi", "A", "m ", ["m"], ("m",), board]:
            if thing not in ("a", "b", "ab"):
                self.assert_command_fails(InvalidName, board, "mark", thing)
            self.assert_command_fails(UnknownMark, board, "back", thing)
        self.assert_command_fails(DuplicateName, board, "mark", "m")
        self.assert_command_fails(UnknownMark, board, "back", "main")


class BatchTest(BoardCase):
    COMMANDS = [
        ("create", "new", "settings a\n- a 3"), ("require", "new", ("a", None, -5)), ("settle", "new"), ("mark", "m"),
        ("move", "new", "a", 1), ("free", "new", (None, "a", 3)), ("lead", "new", {"a": 0}), ("back", "m"),
        ("drop", "main"),
    ]

    def test_all_commands(self):
        board = new_board()
        log = board.log
        self.assert_same(board.batch(list(self.COMMANDS)), [None, None, 3, None, None, None, 4, None, None])
        self.assert_same(board.names, ["new", "wrong"])
        self.assert_system(board, "new", System(["a"], [(None, "a", 3), ("a", None, -5)]), {"a": 3}, 3)
        entries = list(itertools.chain(*[(command[0], "done") for command in self.COMMANDS]))
        self.assert_same(board.log, [*log, "batch", *entries, "done"])

    def test_an_empty_batch(self):
        board = new_board()
        before, log = whole(board), board.log
        self.assert_same(board.batch([]), [])
        self.assertEqual(whole(board), before)
        self.assert_same(board.log, [*log, "batch", "done"])

    def test_commands_see_what_earlier_ones_did(self):
        board = Board()
        commands = [("create", "x", TEXT), ("move", "x", "b", 1), ("move", "x", "a", 1), ("lead", "x", {"a": 3, "b": 4})]
        self.assert_same(board.batch(commands), [None, None, None, 5])
        again = [("mark", "m"), ("drop", "x"), ("create", "x", "settings"), ("back", "m"), ("settle", "x")]
        self.assert_same(board.batch(again), [None, None, None, None, 0])
        self.assert_system(board, "x", PAIR, {"a": 3, "b": 4}, 0)

    def test_it_fails_at_every_place(self):
        failing = [
            (("create", "main", TEXT), DuplicateName), (("create", "A", TEXT), InvalidName),
            (("create", "x", "settings\n"), ParseError), (("require", "x", ("a", "b", 0)), UnknownName),
            (("require", "wrong", None), InvalidSystem), (("free", "wrong", ("a", "b", 9)), UnknownRule),
            (("move", "wrong", "a", 1), Contradiction), (("lead", "wrong", []), InvalidNumbers),
            (("lead", "wrong", {"a": 0, "b": 0}), NotAdmitted), (("settle", "wrong"), Contradiction),
            (("drop", "x"), UnknownName), (("mark", "other"), DuplicateName), (("mark", None), InvalidName),
            (("back", "x"), UnknownMark), (("settle", ["x"]), UnknownName),
        ]
        board = new_board()
        board.mark("other")
        for many in range(len(self.COMMANDS)):
            entries = list(itertools.chain(*[(command[0], "done") for command in self.COMMANDS[:many]]))
            for command, kind in failing:
                commands = [*self.COMMANDS[:many], command, *self.COMMANDS[many:]]
                self.assert_batch_fails(kind, board, [*entries, command[0], "failed"], commands)

    def test_marks_made_in_a_batch_that_fails_are_gone(self):
        board = new_board()
        self.assert_batch_fails(UnknownMark, board, ["mark", "done", "back", "failed"], [("mark", "m"), ("back", "x")])
        board.mark("m")

    def test_a_mark_restored_in_a_batch_that_fails(self):
        board = Board()
        board.mark("m")
        board.create("main", TEXT)
        board.lead("main", {"a": 2, "b": 2})
        self.assert_batch_fails(UnknownName, board, ["back", "done", "drop", "failed"], [("back", "m"), ("drop", "main")])
        self.assert_system(board, "main", PAIR, {"a": 2, "b": 2}, 0)

    def test_the_error_is_that_of_the_command(self):
        board = new_board()
        with self.assertRaises(NotAdmitted) as caught:
            board.batch([("move", "main", "a", 1)])
        self.assert_same(caught.exception.rule, ("a", "b", 0))
        with self.assertRaises(ParseError) as caught:
            board.batch([("create", "x", "settings a\na b 1")])
        self.assert_same(caught.exception.line, 1)

    def test_what_is_no_list(self):
        board = new_board()
        for thing in [*objects(), tuple(self.COMMANDS), {0: ("drop", "main")}, board]:
            if not isinstance(thing, list):
                self.assert_batch_fails(InvalidCommand, board, [], thing)

    def test_what_is_no_command(self):
        board = new_board()
        things = [
            (), ("drop",), ("drop", "main", 1), ["drop", "main"], "drop", ("Drop", "main"), ("settle", "main", 1, 1),
            ("settle", "main", 1), ("settle",), ("batch", []), ("batch",), ("names",), ("log",), ("copy",),
            ("system_of", "main"), ("numbers_of", "main"), ("spent_on", "main"), (None,), (None, "main"), (("drop",), "main"),
            (["drop"], "main"), ({}, "main"), (True, "main"), ("move", "main", "a"), ("move", "main", ("b", 1)),
            ("move", "main", "b", 1, 1), ("create", "x"), ("create", TEXT), ("create", "x", TEXT, TEXT), ("mark",),
            ("mark", "x", "y"), ("back",), ("back", "m", "m"), ("lead", "main"), ("lead", "main", {"a": 1, "b": 1}, 1),
            ("lead", "main", 1, 1), ("require", "main"), ("require", "main", "a", "b", 0), ("free", "main"),
            ("free", "main", "a", "b", 0), ("_state_of", "main"), ("", "main"), ("drop ", "main"), None, True, board,
        ]
        for thing in [*things, *objects()]:
            self.assert_batch_fails(InvalidCommand, board, [], [thing])
            self.assert_batch_fails(InvalidCommand, board, [], [thing, ("drop", "main")])
            self.assert_batch_fails(InvalidCommand, board, ["drop", "done"], [("drop", "main"), thing])
            self.assert_batch_fails(InvalidCommand, board, ["drop", "done"], [("drop", "main"), thing, ("drop", "x")])
        # A command that fails before it is the one that counts.
        self.assert_batch_fails(UnknownName, board, ["drop", "failed"], [("drop", "x"), None])

    def test_a_batch_within_a_batch(self):
        board = new_board()
        inner = [("drop", "main")]
        self.assert_batch_fails(InvalidCommand, board, [], [("batch", inner)])
        self.assert_batch_fails(InvalidCommand, board, ["mark", "done"], [("mark", "m"), ("batch", inner)])

    def test_arguments_stay_as_they_were(self):
        board = new_board()
        commands = list(self.COMMANDS)
        board.batch(commands)
        self.assertEqual(commands, self.COMMANDS)
        numbers = {"b": 1, "a": 1}
        other = new_board()
        results = other.batch([("lead", "main", numbers)])
        numbers["a"] = 0
        results.clear()
        self.assert_same(other.numbers_of("main"), {"a": 1, "b": 1})
        self.assert_same(other.batch([("lead", "main", numbers)]), [1])


class QueriesTest(BoardCase):
    def test_unknown_names(self):
        board = new_board()
        for thing in [*objects(), "new", "m", ["main"], ("main",), board]:
            for query in ("system_of", "numbers_of", "spent_on"):
                self.assert_fails(UnknownName, board, [], getattr(board, query), thing)

    def test_returned_values_are_new(self):
        board = new_board()
        board.mark("m")
        before = whole(board)
        board.names.clear()
        board.numbers_of("main")["a"] = 99
        board.numbers_of("main").clear()
        board.system_of("main").rules.clear()
        log = board.log
        board.log.append("x")
        board.log.clear()
        self.assertEqual(whole(board), before)
        self.assert_same(board.log, log)
        self.assertIsNot(board.log, board.log)

    def test_parameters_by_name(self):
        board = Board()
        board.create(text=TEXT, name="main")
        board.require(rule=(None, "a", -9), name="main")
        board.free(rule=(None, "a", -9), name="main")
        board.move(change=1, block="b", name="main")
        self.assert_same(board.lead(numbers={"a": 2, "b": 2}, name="main"), 3)
        self.assert_same(board.settle(lowering=1, raising=2, name="main"), 0)
        board.mark(label="m")
        board.drop(name="main")
        board.back(label="m")
        self.assert_same(board.batch(commands=[("mark", "other")]), [None])
        self.assertTrue(board.system_of(name="main") == PAIR)
        self.assert_same([board.numbers_of(name="main"), board.spent_on(name="main")], [{"a": 2, "b": 2}, 0])


class LogTest(BoardCase):
    def test_entries(self):
        board = Board()
        board.create("main", TEXT)
        for command, arguments in (
            ("create", ("main", TEXT)), ("require", ("main", None)), ("free", ("main", None)), ("move", ("main", "a", 1)),
            ("lead", ("main", None)), ("settle", ("x",)), ("drop", ("x",)), ("mark", ("",)), ("back", ("m",)),
            ("batch", (None,)),
        ):
            log = board.log
            with self.assertRaises(WindowError):
                getattr(board, command)(*arguments)
            self.assert_same(board.log, [*log, command, "failed"])
        for command, arguments in (
            ("require", ("main", (None, "a", 0))), ("free", ("main", (None, "a", 0))), ("move", ("main", "b", 1)),
            ("lead", ("main", {"a": 1, "b": 1})), ("settle", ("main",)), ("mark", ("m",)), ("back", ("m",)),
            ("drop", ("main",)), ("batch", ([],)), ("create", ("main", TEXT)),
        ):
            log = board.log
            getattr(board, command)(*arguments)
            self.assert_same(board.log, [*log, command, "done"])

    def test_entries_stay(self):
        board = Board()
        board.mark("m")
        board.create("main", TEXT)
        with self.assertRaises(DuplicateName):
            board.batch([("drop", "main"), ("mark", "m")])
        board.back("m")
        wanted = ["mark", "done", "create", "done", "batch", "drop", "done", "mark", "failed", "failed", "back", "done"]
        self.assert_same(board.log, wanted)

    def test_queries_have_no_entries(self):
        board = new_board()
        log = board.log
        visible(board)
        board.copy()
        with self.assertRaises(UnknownName):
            board.system_of("x")
        self.assert_same(board.log, log)


class CopyTest(BoardCase):
    def test_copies_go_on_apart(self):
        board = new_board()
        board.require("main", (None, "a", 2))
        board.settle("main")
        board.mark("m")
        board.move("main", "b", 1)
        before = whole(board)
        copied = board.copy()
        self.assertIs(type(copied), Board)
        self.assertEqual(whole(copied), before)
        self.assert_same(copied.log, [])
        board.drop("main")
        board.mark("other")
        self.assertEqual(whole(copied), before)
        copied.move("main", "a", 1)
        copied.drop("wrong")
        copied.mark("back")
        self.assert_same(board.names, ["wrong"])
        self.assert_command_fails(UnknownMark, board, "back", "back")
        self.assert_command_fails(UnknownMark, copied, "back", "other")
        board.back("m")
        self.assert_system(board, "main", PAIR.with_rules((None, "a", 2)), {"a": 2, "b": 2}, 4)
        copied.back("m")
        self.assertEqual(visible(copied), visible(board))
        copied.back("back")
        self.assert_same([copied.names, copied.numbers_of("main")], [["main"], {"a": 3, "b": 3}])
        self.assert_same(copied.log[:6], ["move", "done", "drop", "done", "mark", "done"])


class SecondAccountTest(BoardCase):
    def test_random_commands(self):
        seen = {}
        for seed in range(60):
            chance = random.Random(seed)
            board, account = Board(), BoardAccount()
            for _ in range(40):
                command = any_command(chance, account)
                if chance.random() < 0.15:
                    command = ("batch", any_batch(chance, account))
                error = self.run_both(board, account, command)
                seen[command[0], error] = seen.get((command[0], error), 0) + 1
                wanted = [[name, each.names, each.ascending(), each.numbers, each.spent]
                          for name, each in sorted(account.accounts.items())]
                self.assert_same(visible(board), wanted)
                self.assert_same(board.log, account.log)
                if chance.random() < 0.05:
                    board = board.copy()
                    account.log = []
        for command in ("create", "require", "free", "move", "lead", "settle", "drop", "mark", "back", "batch"):
            self.assertGreater(seen.get((command, None), 0), 5, command)
        for command, error in (
            ("create", "DuplicateName"), ("create", "ParseError"), ("create", "InvalidName"), ("require", "InvalidSystem"),
            ("free", "UnknownRule"), ("move", "Contradiction"), ("move", "InvalidStep"), ("move", "NotAdmitted"),
            ("lead", "InvalidNumbers"), ("lead", "NotAdmitted"), ("settle", "InvalidPrices"), ("settle", "Contradiction"),
            ("mark", "DuplicateName"), ("back", "UnknownMark"), ("drop", "UnknownName"), ("batch", "InvalidCommand"),
        ):
            self.assertGreater(seen.get((command, error), 0), 0, (command, error))

    def run_both(self, board, account, command):
        """Runs a command on both; returns the name of the error."""
        try:
            if command[0] == "settle" and len(command) == 4:
                result = board.settle(command[1], raising=command[2], lowering=command[3])
            else:
                result = getattr(board, command[0])(*command[1:])
            error = None
        except WindowError as raised:
            result, error = None, told(raised)
        try:
            wanted = account.run(command, settled(board, command, result))
        except Failure as failure:
            self.assert_same(error, failure.told)
            return error[0]
        self.assertIsNone(error)
        self.assert_same(result, wanted)
        return None


def settled(board, command, result):
    """The price and the numbers after the settlement in a command or at the end of a batch, by the name."""
    if command[0] == "batch" and result:
        command, result = command[1][-1], result[-1]
    if command[0] == "settle" and result is not None:
        return {command[1]: (result, board.numbers_of(command[1]))}
    return {}


def any_batch(chance, account):
    """A batch, with a settlement at its end at most, as only the numbers after it can be seen."""
    commands = [any_command(chance, account) for _ in range(chance.randint(0, 4))]
    commands = [command for command in commands if command[0] != "settle"]
    last = chance.choice([[], [("settle", chance.choice(["x", "y"]))], [chance.choice([None, ("drop",), ("batch", [])])]])
    return chance.choice([commands, commands + last, commands + last, tuple(commands)])


def any_command(chance, account):
    name = chance.choice([*account.accounts, *account.accounts, "x", "y", "z", "X", None])
    known = account.accounts.get(name)
    names = known.names if known else ["a", "b"]
    label = chance.choice(["x", "m", "n", "o", "p", "q", "r", 7])
    ends = [None, *names, *names, "d"]
    rule = (chance.choice(ends), chance.choice(ends), chance.randint(-2, 2))
    texts = [format_system(system) for system in oracles.small_systems(chance.randint(0, 999), 3, settings=3, rules=3, gap=1)]
    numbers = {each: chance.randint(-2, 2) for each in names}
    return chance.choice([
        ("create", chance.choice(["x", "y", "z", name]), chance.choice([*texts, texts[0] + "\n", None])),
        ("create", chance.choice(["x", "y", "z"]), texts[0]),
        ("require", name, chance.choice([rule, rule, (*rule[:2], True)])),
        ("free", name, chance.choice([rule, *(known.ascending() if known else [])])),
        ("free", name, chance.choice([rule, *(known.ascending() if known else [])])),
        *[("move", name, chance.choice([*names, "d"]), chance.choice([1, -1, 1, -1, 1, -1, 2]))] * 4,
        *[("lead", name, chance.choice([numbers, numbers, {"a": True}, None]))] * 2,
        *[("settle", name, *chance.choice([(), (), (3, 2), (1, 9), (0, 1), (5, None)]))] * 3,
        ("drop", name), ("mark", label), ("back", label),
    ])


class LargeTest(BoardCase):
    def test_twenty_settings_with_a_hundred_rules(self):
        for seed in range(5):
            system, numbers = oracles.far_system(seed, rules=98)
            board = Board()
            self.assert_quick(board.create, "main", format_system(system))
            self.assert_quick(board.settle, "main")
            self.assert_quick(board.lead, "main", numbers)
            self.assert_quick(board.require, "main", (None, "a", numbers["a"]))
            try:
                self.assert_quick(board.move, "main", "b", 1)
            except (NotAdmitted, InvalidStep):
                pass
            self.assert_quick(board.mark, "m")
            self.assert_quick(board.free, "main", (None, "a", numbers["a"]))
            self.assert_quick(board.back, "m")
            self.assert_quick(board.copy)
            commands = [("require", "main", rule) for rule in system.rules] + [("lead", "main", numbers), ("settle", "main")]
            self.assert_same(self.assert_quick(board.batch, commands)[-1], 0)


if __name__ == "__main__":
    unittest.main()
