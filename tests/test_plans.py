"""Plans: promise 23."""

import random
import string
import unittest

from tests import oracles
from tests.support import Case, objects
from windowsteps.errors import InvalidNumbers, NotAdmitted, NothingToUndo, PlanFinished
from windowsteps.plans import Plan
from windowsteps.sequences import moments, sequence
from windowsteps.systems import System

CLOSE = System(["a", "b"], [("a", "b", 0), ("b", "a", -1)])
OLD, NEW = {"a": 0, "b": 0}, {"a": 1, "b": 2}
STEPS = [("b", 1), ("a", 1), ("b", 1)]
WALK = [{"a": 0, "b": 0}, {"a": 0, "b": 1}, {"a": 1, "b": 1}, {"a": 1, "b": 2}]


class PlanCase(Case):
    def assert_plan(self, plan, steps, walk, done):
        """Checks all that a plan tells of its state; walk has the numbers after each number of steps."""
        self.assertIs(type(plan), Plan)
        self.assert_same(plan.steps, steps)
        self.assert_same(plan.done, done)
        self.assert_same(plan.current, walk[done])
        self.assertIs(plan.is_finished, done == len(steps))


class ExamplesTest(Case):
    def test_document(self):
        self.assert_examples("""
>>> from windowsteps.plans import Plan
>>> from windowsteps.systems import System
>>> plan = Plan(System(['a', 'b'], [('a', 'b', 0)]), {'a': 0, 'b': 0}, {'a': 1, 'b': 1})
>>> [plan.advance(), plan.current, plan.is_finished, plan.turned().steps]
[('b', 1), {'a': 0, 'b': 1}, False, [('b', -1)]]
""")


class WalkingTest(PlanCase):
    def test_forwards_and_back(self):
        plan = Plan(CLOSE, OLD, NEW)
        self.assert_plan(plan, STEPS, WALK, 0)
        for done, step in enumerate(STEPS, start=1):
            self.assert_same(plan.advance(), step)
            self.assert_plan(plan, STEPS, WALK, done)
        for done, step in reversed(list(enumerate(STEPS))):
            self.assert_same(plan.back(), step)
            self.assert_plan(plan, STEPS, WALK, done)

    def test_at_its_ends(self):
        plan = Plan(CLOSE, OLD, NEW)
        self.assert_raises_exactly(NothingToUndo, plan.back)
        self.assert_plan(plan, STEPS, WALK, 0)
        self.assert_same(plan.abandon(), 0)
        self.assert_plan(plan, STEPS, WALK, 0)
        self.assert_same(plan.finish(), 3)
        self.assert_plan(plan, STEPS, WALK, 3)
        self.assert_raises_exactly(PlanFinished, plan.advance)
        self.assert_same(plan.finish(), 0)
        self.assert_plan(plan, STEPS, WALK, 3)
        self.assert_same(plan.abandon(), 3)
        self.assert_plan(plan, STEPS, WALK, 0)

    def test_in_the_middle(self):
        plan = Plan(CLOSE, OLD, NEW)
        plan.advance()
        self.assert_same(plan.finish(), 2)
        plan.back()
        self.assert_same(plan.abandon(), 2)
        plan.advance()
        plan.advance()
        self.assert_same(plan.finish(), 1)
        self.assert_plan(plan, STEPS, WALK, 3)

    def test_equal_old_and_new_numbers(self):
        for plan in (Plan(CLOSE, OLD, OLD), Plan(System([], []), {}, {})):
            for _ in range(2):
                self.assert_plan(plan, [], [plan.current], 0)
                self.assertIs(plan.is_finished, True)
                self.assert_raises_exactly(PlanFinished, plan.advance)
                self.assert_raises_exactly(NothingToUndo, plan.back)
                self.assert_same([plan.finish(), plan.abandon()], [0, 0])
                plan = plan.turned().copy()
        self.assert_same(Plan(CLOSE, OLD, OLD).copy().current, OLD)

    def test_blocks_move_together(self):
        system = System(["a", "b", "c"], [("a", "b", 2), ("b", "a", -2), ("b", "c", 0)])
        plan = Plan(system, {"c": 2, "b": 2, "a": 0}, {"a": 1, "c": 3, "b": 3})
        walk = [{"a": 0, "b": 2, "c": 2}, {"a": 0, "b": 2, "c": 3}, {"a": 1, "b": 3, "c": 3}]
        self.assert_plan(plan, [("c", 1), ("a", 1)], walk, 0)
        for done in (1, 2):
            plan.advance()
            self.assert_plan(plan, [("c", 1), ("a", 1)], walk, done)

    def test_numbers_at_the_ends_of_the_range(self):
        system = System(["a", "b"], [("a", "b", -999)])
        plan = Plan(system, {"a": 99998, "b": -99999 + 198999}, {"a": 99999, "b": 99999})
        self.assert_same(plan.finish(), 1000)
        self.assert_same(plan.current, {"a": 99999, "b": 99999})

    def test_a_second_account(self):
        for at, system in enumerate(oracles.small_systems(90, 120, gap=2)):
            chance = random.Random(at)
            found = [] if oracles.has_contradiction(system) else oracles.admitted_in_box(system, 3)
            if len(found) < 2:
                continue
            old, new = chance.sample(found, 2)
            steps = oracles.steps_towards(system, oracles.blocks_and_grounded(system)[0], old, new)
            walk = [old, *moments_of(system, old, steps)]
            self.walk_at_random(system, Plan(system, old, new), walk, steps, chance)

    def walk_at_random(self, system, plan, walk, steps, chance):
        done = 0
        for _ in range(25):
            call = chance.choice(["advance", "advance", "advance", "back", "back", "finish", "abandon", "copy", "turned"])
            if call == "advance" and done == len(steps):
                self.assert_raises_exactly(PlanFinished, plan.advance)
            elif call == "advance":
                self.assert_same(plan.advance(), steps[done])
                done += 1
            elif call == "back" and done == 0:
                self.assert_raises_exactly(NothingToUndo, plan.back)
            elif call == "back":
                done -= 1
                self.assert_same(plan.back(), steps[done])
            elif call == "finish":
                self.assert_same(plan.finish(), len(steps) - done)
                done = len(steps)
            elif call == "abandon":
                self.assert_same(plan.abandon(), done)
                done = 0
            elif call == "copy":
                plan = plan.copy()
            else:
                self.assert_turned(system, plan, walk[done], walk[0])
            self.assert_plan(plan, steps, walk, done)

    def assert_turned(self, system, plan, current, old):
        turned = plan.turned()
        steps = oracles.steps_towards(system, oracles.blocks_and_grounded(system)[0], current, old)
        self.assert_plan(turned, steps, [current, *moments_of(system, current, steps)], 0)
        turned.finish()
        self.assert_same(turned.current, old)


def moments_of(system, numbers, steps):
    """The numbers after each of some steps, walked one by one."""
    groups = {block[0]: block for block in oracles.blocks_and_grounded(system)[0]}
    for name, change in steps:
        numbers = {each: number + change * (each in groups[name]) for each, number in numbers.items()}
        yield numbers


class TurnedTest(PlanCase):
    def test_at_the_beginning(self):
        plan = Plan(CLOSE, OLD, NEW)
        turned = plan.turned()
        self.assert_plan(turned, [], [OLD], 0)
        self.assertIs(turned.is_finished, True)

    def test_at_the_end(self):
        plan = Plan(CLOSE, OLD, NEW)
        plan.finish()
        # The way back is a sequence of its own, not the steps of the plan in reverse.
        steps = [("b", -1), ("a", -1), ("b", -1)]
        self.assert_plan(plan.turned(), steps, WALK[::-1], 0)
        free = Plan(System(["a", "b"], []), OLD, {"a": 1, "b": 1})
        self.assert_same(free.steps, [("a", 1), ("b", 1)])
        free.finish()
        self.assert_same(free.turned().steps, [("a", -1), ("b", -1)])

    def test_in_the_middle_and_turned_again(self):
        plan = Plan(CLOSE, OLD, NEW)
        plan.advance()
        plan.advance()
        turned = plan.turned()
        self.assert_plan(turned, [("a", -1), ("b", -1)], [WALK[2], WALK[1], WALK[0]], 0)
        turned.advance()
        self.assert_plan(plan, STEPS, WALK, 2)
        again = turned.turned()
        self.assert_plan(again, [("a", 1)], [WALK[1], WALK[2]], 0)
        again.finish()
        self.assert_plan(turned, [("a", -1), ("b", -1)], [WALK[2], WALK[1], WALK[0]], 1)
        self.assert_same(again.turned().steps, [("a", -1)])
        self.assert_plan(plan, STEPS, WALK, 2)


class CopyTest(PlanCase):
    def test_copies_go_on_apart(self):
        plan = Plan(CLOSE, OLD, NEW)
        plan.advance()
        copy = plan.copy()
        self.assert_plan(copy, STEPS, WALK, 1)
        copy.finish()
        self.assert_plan(plan, STEPS, WALK, 1)
        plan.back()
        self.assert_plan(copy, STEPS, WALK, 3)
        third = copy.copy()
        copy.abandon()
        self.assert_plan(third, STEPS, WALK, 3)
        self.assert_same(third.turned().steps, [("b", -1), ("a", -1), ("b", -1)])
        self.assert_same(copy.turned().steps, [])
        self.assert_plan(plan, STEPS, WALK, 0)

    def test_copies_of_a_turned_plan(self):
        plan = Plan(CLOSE, OLD, NEW)
        plan.finish()
        turned = plan.turned()
        turned.advance()
        copy = turned.copy()
        copy.advance()
        self.assert_plan(turned, [("b", -1), ("a", -1), ("b", -1)], WALK[::-1], 1)
        self.assert_plan(copy, [("b", -1), ("a", -1), ("b", -1)], WALK[::-1], 2)
        self.assert_same(copy.turned().steps, [("a", 1), ("b", 1)])


class ValuesTest(PlanCase):
    def test_arguments_are_copied(self):
        old, new = {"b": 0, "a": 0}, {"b": 2, "a": 1}
        plan = Plan(CLOSE, old, new)
        self.assertEqual(repr([old, new]), "[{'b': 0, 'a': 0}, {'b': 2, 'a': 1}]")
        for numbers in (old, new):
            numbers["a"] = 77
        self.assert_plan(plan, STEPS, WALK, 0)
        plan.finish()
        self.assert_plan(plan, STEPS, WALK, 3)
        self.assert_same(plan.turned().current, NEW)
        plan.abandon()
        self.assert_plan(plan, STEPS, WALK, 0)

    def test_returned_values_are_new(self):
        plan = Plan(CLOSE, OLD, NEW)
        for done in range(4):
            plan.steps.clear()
            plan.current["a"] = 99
            plan.current.clear()
            self.assertIsNot(plan.steps, plan.steps)
            self.assertIsNot(plan.current, plan.current)
            self.assert_plan(plan, STEPS, WALK, done)
            copy = plan.copy()
            copy.steps.append(None)
            copy.current.clear()
            self.assert_plan(plan, STEPS, WALK, done)
            self.assert_plan(copy, STEPS, WALK, done)
            if done < 3:
                plan.advance()

    def test_parameters_by_name(self):
        self.assert_plan(Plan(new=NEW, system=CLOSE, old=OLD), STEPS, WALK, 0)

    def test_a_thousand_steps(self):
        names = list(string.ascii_lowercase[:20])
        pairs = list(zip(names, names[1:]))
        rules = [(low, high, gap) for low, high in pairs for gap in (0, -1, -2, -3)]
        system = System(names, [*rules, *[(high, low, -5) for low, high in pairs], ("a", None, -100)])
        old, new = {name: 0 for name in names}, {name: 50 for name in names}
        plan = self.assert_quick(Plan, system, old, new, seconds=3)
        self.assert_same(len(plan.steps), 1000)
        self.assert_quick(self.walk_there_and_back, plan, seconds=3)
        plan.finish()
        turned = self.assert_quick(plan.turned, seconds=3)
        self.assert_same([len(turned.steps), turned.finish(), turned.current], [1000, 1000, old])
        self.assert_same(self.assert_quick(plan.copy).current, new)

    def walk_there_and_back(self, plan):
        many = 0
        while not plan.is_finished:
            plan.advance()
            many += len(plan.current) // 20
        while plan.done > 0:
            plan.back()
        self.assert_same(many, 1000)

    def test_large_systems(self):
        system, numbers = oracles.far_system(22, rules=60)
        free = System(system.names, [rule for rule in system.rules if None not in rule])
        far = {name: number - 40 for name, number in numbers.items()}
        plan = self.assert_quick(Plan, free, numbers, far, seconds=3)
        steps = sequence(free, numbers, far)
        self.assert_plan(plan, steps, [numbers, *moments(free, numbers, far)], 0)
        while not plan.is_finished:
            plan.advance()
            self.assertTrue(oracles.admitted(free, plan.current))
        self.assert_same(plan.current, far)


class ErrorsTest(PlanCase):
    def test_any_objects(self):
        for thing in [*objects(), {"a": 0, "b": True}, {"a": 0}, CLOSE, Plan(CLOSE, OLD, NEW)]:
            self.assert_raises_exactly(InvalidNumbers, Plan, CLOSE, thing, NEW)
            self.assert_raises_exactly(InvalidNumbers, Plan, CLOSE, OLD, thing)
            self.assert_raises_exactly(InvalidNumbers, Plan, CLOSE, thing, thing)
            self.assert_raises_exactly(InvalidNumbers, Plan, CLOSE, {"a": 9, "b": 0}, thing)

    def test_numbers_that_are_not_admitted(self):
        system = System(["a", "b"], [(None, "a", 0), ("a", "b", 2), ("a", "b", 1), ("b", None, -5)])
        good = {"a": 0, "b": 3}
        cases = [
            (good, {"a": -1, "b": 6}, (None, "a", 0)), (good, {"a": 4, "b": 4}, ("a", "b", 1)),
            (good, {"a": 4, "b": 5}, ("a", "b", 2)), ({"a": 4, "b": 6}, good, ("b", None, -5)),
            ({"a": 4, "b": 6}, {"a": -1, "b": 6}, ("b", None, -5)),
        ]
        for old, new, rule in cases:
            self.assert_raises_exactly(NotAdmitted, Plan, system, old, new)
            with self.assertRaises(NotAdmitted) as caught:
                Plan(system, old, new)
            self.assert_same(caught.exception.rule, rule)


if __name__ == "__main__":
    unittest.main()
