"""Steps: promises 4, 7 and 15."""

import unittest

from tests import oracles
from tests.support import Case, mangled, objects
from windowsteps.errors import Contradiction, InvalidNumbers, InvalidStep
from windowsteps.moves import after_step, is_safe, safe_steps
from windowsteps.systems import System

TIED = System(["a", "b", "c"], [("a", "b", 2), ("b", "a", -2), ("b", "c", 0)])
LOOSE = {"a": 0, "b": 2, "c": 5}
FIXED = System(["a", "b", "c"], [(None, "b", 4), ("b", None, -4), ("c", "a", 1), ("a", "c", -1)])
WRONG = System(["a", "b"], [("a", "b", 1), ("b", "a", 0)])

NO_STEPS = [
    ("a", 0), ("a", 2), ("a", -2), ("a", 10 ** 39),
    ("a", True), ("a", False), ("a", None), ("a", "1"), ("a", [1]), ("a", (1,)),
    ("b", 1), ("b", -1), ("d", 1), ("", 1), ("A", 1), (None, 1), (0, 1), (True, 1), (("a",), 1), (["a"], 1), ({}, 1),
    ("a",), ("a", 1, 1), ("a", 1, None), ["a", 1], {"a": 1}, [("a", 1)], (("a", 1),), (1, "a"), ("a ", 1), "a1",
    *[thing for thing in objects() if thing != ("a", 1)], TIED,
]


def steps_by_hand(system, numbers):
    """All steps after which the numbers are admitted, from the blocks that all chains give."""
    found = []
    for block in oracles.blocks_and_grounded(system)[0]:
        for change in (-1, 1):
            after = {name: numbers[name] + change * (name in block) for name in numbers}
            if oracles.admitted(system, after):
                found.append((block[0], change))
    return found


class ExamplesTest(Case):
    def test_document(self):
        self.assert_examples("""
>>> from windowsteps.moves import after_step, safe_steps
>>> from windowsteps.systems import System
>>> system = System(['a', 'b', 'c'], [('a', 'b', 2), ('b', 'a', -2), ('b', 'c', 0)])
>>> list(safe_steps(system, {'a': 0, 'b': 2, 'c': 2}))
[('a', -1), ('c', 1)]
>>> after_step(system, {'a': 0, 'b': 2, 'c': 2}, ('a', 1))
{'a': 1, 'b': 3, 'c': 2}
""")


class AfterStepTest(Case):
    def assert_after(self, system, numbers, step, wanted):
        before = repr(numbers)
        self.assert_same(after_step(system, numbers, step), wanted)
        self.assertEqual(repr(numbers), before)

    def test_all_settings_of_the_block_move(self):
        self.assert_after(TIED, LOOSE, ("a", 1), {"a": 1, "b": 3, "c": 5})
        self.assert_after(TIED, LOOSE, ("a", -1), {"a": -1, "b": 1, "c": 5})
        self.assert_after(TIED, LOOSE, ("c", 1), {"a": 0, "b": 2, "c": 6})
        self.assert_after(FIXED, {"a": 0, "b": 4, "c": -1}, ("a", -1), {"a": -1, "b": 4, "c": -2})

    def test_numbers_need_not_be_admitted_before_or_after(self):
        self.assert_after(TIED, {"a": 7, "b": 0, "c": -3}, ("a", 1), {"a": 8, "b": 1, "c": -3})
        self.assert_after(TIED, {"a": 0, "b": 2, "c": 2}, ("c", -1), {"a": 0, "b": 2, "c": 1})

    def test_keys_come_in_ascending_order(self):
        self.assert_after(TIED, {"c": 5, "b": 2, "a": 0}, ("c", -1), {"a": 0, "b": 2, "c": 4})

    def test_numbers_at_the_ends_of_the_range(self):
        system = System(["a", "b"], [])
        self.assert_after(system, {"a": 99999, "b": -99999}, ("a", -1), {"a": 99998, "b": -99999})
        self.assert_after(system, {"a": 99998, "b": -99999}, ("a", 1), {"a": 99999, "b": -99999})
        self.assert_after(system, {"a": 99999, "b": -99999}, ("b", 1), {"a": 99999, "b": -99998})

    def test_results_are_new(self):
        numbers = dict(LOOSE)
        after = after_step(TIED, numbers, ("a", 1))
        after["a"] = 50
        self.assert_same(numbers, LOOSE)
        self.assert_same(after_step(TIED, numbers, ("a", 1)), {"a": 1, "b": 3, "c": 5})

    def test_things_that_are_no_step(self):
        for thing in NO_STEPS:
            self.assert_raises_exactly(InvalidStep, after_step, TIED, LOOSE, thing)
            self.assert_raises_exactly(InvalidStep, after_step, System([], []), {}, thing)

    def test_grounded_settings_have_no_steps(self):
        numbers = {"a": 0, "b": 4, "c": -1}
        for step in (("b", 1), ("b", -1), ("c", 1), (None, 1)):
            self.assert_raises_exactly(InvalidStep, after_step, FIXED, numbers, step)

    def test_order_of_errors(self):
        for numbers in ({"a": 0}, {"a": 0, "b": True}, None):
            self.assert_raises_exactly(InvalidNumbers, after_step, WRONG, numbers, None)
            self.assert_raises_exactly(InvalidNumbers, after_step, WRONG, numbers, ("a", 1))
            self.assert_raises_exactly(InvalidNumbers, after_step, TIED, numbers, ("b", 1))
        for step in (None, ("a", 1), ("a", True), ("x", 1)):
            self.assert_raises_exactly(Contradiction, after_step, WRONG, {"a": 0, "b": 0}, step)

    def test_invalid_numbers(self):
        for thing in [*objects(), [0, 2, 5], {"a": 0, "b": 2, "c": False}, {"a": 0, "b": 2, "c": 100000}]:
            if thing != {"a": 0, "b": 0, "c": 0}:
                self.assert_raises_exactly(InvalidNumbers, after_step, TIED, thing, ("a", 1))

    def test_parameters_by_name(self):
        self.assert_same(after_step(step=("c", 1), numbers=LOOSE, system=TIED), {"a": 0, "b": 2, "c": 6})


class IsSafeTest(Case):
    def assert_safe(self, wanted, system, numbers, step):
        before = repr([numbers, step])
        self.assertIs(is_safe(system, numbers, step), wanted, before)
        self.assertEqual(repr([numbers, step]), before)

    def test_with_and_without_play(self):
        for c, up, down in ((2, False, False), (3, True, True)):
            numbers = {"a": 0, "b": 2, "c": c}
            self.assert_safe(up, TIED, numbers, ("a", 1))
            self.assert_safe(True, TIED, numbers, ("a", -1))
            self.assert_safe(True, TIED, numbers, ("c", 1))
            self.assert_safe(down, TIED, numbers, ("c", -1))

    def test_rules_of_the_ground(self):
        system = System(["a"], [(None, "a", 2), ("a", None, -4)])
        for number, down, up in ((2, False, True), (3, True, True), (4, True, False)):
            self.assert_safe(down, system, {"a": number}, ("a", -1))
            self.assert_safe(up, system, {"a": number}, ("a", 1))

    def test_numbers_that_are_not_admitted(self):
        system = System(["a", "b"], [(None, "a", 2), ("a", "b", 0)])
        self.assert_safe(True, system, {"a": 1, "b": 5}, ("a", 1))
        self.assert_safe(False, system, {"a": 0, "b": 5}, ("a", 1))
        self.assert_safe(False, system, {"a": 1, "b": 1}, ("a", 1))
        self.assert_safe(False, system, {"a": 1, "b": 5}, ("b", 1))
        self.assert_safe(False, TIED, {"a": 0, "b": 3, "c": 9}, ("a", 1))

    def test_things_that_are_no_step(self):
        for thing in NO_STEPS:
            self.assert_safe(False, TIED, LOOSE, thing)
            self.assert_safe(False, System([], []), {}, thing)
        for step in (("b", 1), ("b", -1), ("c", 1), (None, 1)):
            self.assert_safe(False, FIXED, {"a": 0, "b": 4, "c": -1}, step)

    def test_results_that_were_changed(self):
        for steps in mangled(list(safe_steps(TIED, LOOSE))):
            for step in steps:
                self.assert_safe(repr(step) in ("('a', -1)", "('a', 1)", "('c', -1)", "('c', 1)"), TIED, LOOSE, step)

    def test_small_systems(self):
        for system in oracles.small_systems(14, 150, settings=3, gap=2):
            if oracles.has_contradiction(system):
                continue
            for numbers in oracles.box(system, 2):
                wanted = steps_by_hand(system, numbers)
                self.assert_same(list(safe_steps(system, numbers)), wanted)
                for step in [(name, change) for name in system.names for change in (1, -1)]:
                    self.assert_safe(step in wanted, system, numbers, step)

    def test_errors(self):
        for thing in objects():
            if thing != {"a": 0, "b": 0, "c": 0}:
                self.assert_raises_exactly(InvalidNumbers, is_safe, TIED, thing, ("a", 1))
                self.assert_raises_exactly(InvalidNumbers, is_safe, TIED, thing, None)
        self.assert_raises_exactly(InvalidNumbers, is_safe, WRONG, {"a": 0}, ("a", 1))
        self.assert_raises_exactly(InvalidNumbers, is_safe, WRONG, {"a": 0, "b": True}, None)
        for step in (None, ("a", 1), ("x", 1)):
            self.assert_raises_exactly(Contradiction, is_safe, WRONG, {"a": 0, "b": 0}, step)

    def test_parameters_by_name(self):
        self.assertIs(is_safe(step=("c", 1), numbers=LOOSE, system=TIED), True)


class SafeStepsTest(Case):
    def test_no_settings_and_no_rules(self):
        self.assert_same(list(safe_steps(System([], []), {})), [])
        wanted = [("a", -1), ("a", 1), ("b", -1), ("b", 1)]
        self.assert_same(list(safe_steps(System(["b", "a"], []), {"b": 3, "a": 9})), wanted)

    def test_grounded_settings(self):
        wanted = [("a", -1), ("a", 1)]
        self.assert_same(list(safe_steps(FIXED, {"a": 0, "b": 4, "c": -1})), wanted)
        self.assert_same(list(safe_steps(FIXED, {"a": 0, "b": 3, "c": -1})), [])

    def test_a_block_of_all_settings(self):
        tied = oracles.ladder().with_rules(("t", "a", 0))
        numbers = {name: 7 for name in tied.names}
        self.assert_same(self.assert_quick(lambda: list(safe_steps(tied, numbers))), [("a", -1), ("a", 1)])
        self.assert_same(self.assert_quick(after_step, tied, numbers, ("a", 1)), {name: 8 for name in tied.names})

    def test_large_systems(self):
        system, numbers = oracles.far_system(15)
        found = self.assert_quick(lambda: list(safe_steps(system, numbers)))
        self.assertEqual(found, sorted(found))
        for name in system.names:
            for change in (-1, 1):
                safe = self.assert_quick(is_safe, system, numbers, (name, change))
                self.assertIs(safe, (name, change) in found)

    def test_it_leaves_its_arguments(self):
        numbers = {"c": 2, "b": 2, "a": 0}
        list(safe_steps(TIED, numbers))
        self.assertEqual(repr(numbers), "{'c': 2, 'b': 2, 'a': 0}")

    def test_it_is_a_generator_that_can_be_walked_twice(self):
        wanted = [("a", -1), ("a", 1), ("c", -1), ("c", 1)]
        walk = safe_steps(TIED, LOOSE)
        self.assertIs(iter(walk), walk)
        self.assert_same(next(walk), ("a", -1))
        self.assert_same(list(safe_steps(TIED, LOOSE)), wanted)
        self.assert_same(list(walk), wanted[1:])
        self.assert_same(list(walk), [])
        self.assert_same(list(safe_steps(TIED, LOOSE)), wanted)

    def test_a_walk_within_another_walk(self):
        pairs = [(one, two) for one in safe_steps(TIED, LOOSE) for two in safe_steps(TIED, LOOSE)]
        wanted = [("a", -1), ("a", 1), ("c", -1), ("c", 1)]
        self.assert_same(pairs, [(one, two) for one in wanted for two in wanted])

    def test_errors_come_when_it_is_iterated(self):
        for thing in objects():
            if thing != {"a": 0, "b": 0, "c": 0}:
                walk = safe_steps(TIED, thing)
                self.assert_raises_exactly(InvalidNumbers, next, walk)
        for numbers, kind in (({"a": 0, "b": 0}, Contradiction), ({"a": 0}, InvalidNumbers), (None, InvalidNumbers)):
            walk = safe_steps(WRONG, numbers)
            self.assert_raises_exactly(kind, next, walk)

    def test_parameters_by_name(self):
        self.assert_same(list(safe_steps(numbers={"a": 0, "b": 2, "c": 2}, system=TIED)), [("a", -1), ("c", 1)])


if __name__ == "__main__":
    unittest.main()
