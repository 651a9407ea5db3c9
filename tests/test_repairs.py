"""Repairs: promise 28."""

import random
import string
import unittest

from tests import oracles
from tests.support import Case, objects
from windowsteps.errors import Contradiction, InvalidNumbers, InvalidSystem, NoSolution, NotAdmitted
from windowsteps.repairs import eased, repair, walk
from windowsteps.systems import System
from windowsteps.tasks import Prices, Task

PAIR = System(["a", "b"], [("a", "b", 3), ("b", "a", -3)])
WRONG = System(["a", "b"], [("a", "b", 1), ("b", "a", 0)])


def eased_by_definition(system, numbers):
    rules = []
    for low, high, gap in system.rules:
        given = oracles.number(high, numbers) - oracles.number(low, numbers)
        rules.append((low, high, gap if given >= gap else given))
    return System(system.names, rules)


class RepairsCase(Case):
    def assert_walk(self, system, old, new, thing):
        """Checks that steps are the walk between numbers, and that no shortfall above 0 grows on the way."""
        soft = eased_by_definition(system, old)
        groups = oracles.blocks_and_grounded(soft)[0]
        self.assert_same(thing, oracles.steps_towards(soft, groups, old, new))
        self.assert_safe(system, groups, old, new, thing)

    def assert_safe(self, system, groups, old, new, thing):
        named = {block[0]: block for block in groups}
        first = {rule: max(0, oracles.shortfall(rule, old)) for rule in system.rules}
        numbers = dict(old)
        for name, change in thing:
            before = numbers
            numbers = {each: number + change * (each in named[name]) for each, number in before.items()}
            for each in named[name]:
                self.assertLess(abs(new[each] - numbers[each]), abs(new[each] - before[each]))
            for rule, most in first.items():
                self.assertLessEqual(oracles.shortfall(rule, numbers), most)
        self.assertEqual(numbers, new)


class ExamplesTest(Case):
    def test_document(self):
        self.assert_examples("""
>>> from windowsteps.repairs import eased, repair, walk
>>> from windowsteps.systems import System
>>> from windowsteps.tasks import Prices, Task
>>> system = System(['a', 'b'], [('a', 'b', 3), ('b', 'a', -3)])
>>> eased(system, {'a': 0, 'b': 1}).rules
[('a', 'b', 1), ('b', 'a', -3)]
>>> walk(system, {'a': 0, 'b': 1}, {'a': -1, 'b': 2})
[('a', -1), ('b', 1)]
>>> repair(Task(system, {'a': 0, 'b': 0}, Prices(raising=2, lowering=5)))
(6, [('b', 1), ('b', 1), ('b', 1)])
""")


class EasedTest(RepairsCase):
    def assert_eased(self, system, numbers, rules):
        before = repr([system.names, system.rules, numbers])
        outcome = eased(system, numbers)
        self.assertIs(type(outcome), System)
        self.assert_same([outcome.names, outcome.rules], [system.names, rules])
        self.assertEqual(repr([system.names, system.rules, numbers]), before)

    def test_no_settings_and_no_rules(self):
        self.assert_eased(System([], []), {}, [])
        self.assert_eased(System(["b", "a"], []), {"a": 9, "b": -9}, [])

    def test_rules_that_hold_stay(self):
        self.assert_eased(PAIR, {"a": 0, "b": 3}, PAIR.rules)
        system = System(["a"], [(None, "a", -5), ("a", None, -5)])
        for a in (-5, 0, 5):
            self.assert_eased(system, {"a": a}, system.rules)

    def test_rules_that_do_not_hold(self):
        self.assert_eased(PAIR, {"a": 0, "b": 4}, [("a", "b", 3), ("b", "a", -4)])
        self.assert_eased(PAIR, {"a": 0, "b": 2}, [("a", "b", 2), ("b", "a", -3)])
        self.assert_eased(PAIR, {"a": 7, "b": -1}, [("a", "b", -8), ("b", "a", -3)])
        system = System(["a"], [(None, "a", 3), ("a", None, 5)])
        self.assert_eased(system, {"a": 1}, [(None, "a", 1), ("a", None, -1)])
        self.assert_eased(system, {"a": -9}, [(None, "a", -9), ("a", None, 5)])

    def test_rules_that_become_equal(self):
        system = System(["a", "b"], [("a", "b", 1), ("a", "b", 2), ("a", "b", 3), ("a", "b", -1)])
        self.assert_eased(system, {"a": 0, "b": 0}, [("a", "b", -1), ("a", "b", 0)])
        self.assert_eased(system, {"a": 0, "b": 1}, [("a", "b", -1), ("a", "b", 1)])
        self.assert_eased(system, {"a": 0, "b": -5}, [("a", "b", -5)])

    def test_contradictions_are_eased(self):
        self.assert_eased(WRONG, {"a": 0, "b": 0}, [("a", "b", 0), ("b", "a", 0)])
        self.assert_eased(WRONG, {"a": 0, "b": 5}, [("a", "b", 1), ("b", "a", -5)])

    def test_gaps_down_to_999_below(self):
        system = System(["a", "b"], [("a", "b", 3)])
        self.assert_eased(system, {"a": 999, "b": 0}, [("a", "b", -999)])
        self.assert_eased(system, {"a": 99999, "b": 99000}, [("a", "b", -999)])
        for a, b in ((1000, 0), (0, -1000), (99999, -99999), (5000, 0)):
            self.assert_raises_exactly(InvalidSystem, eased, system, {"a": a, "b": b})
        ground = System(["a"], [(None, "a", 0)])
        self.assert_eased(ground, {"a": -999}, [(None, "a", -999)])
        self.assert_raises_exactly(InvalidSystem, eased, ground, {"a": -1000})
        # A rule that holds keeps its gap, however far apart the numbers are.
        self.assert_eased(system, {"a": -99999, "b": 99999}, [("a", "b", 3)])
        lowest = System(["a", "b"], [("a", "b", -999)])
        self.assert_eased(lowest, {"a": 999, "b": 0}, [("a", "b", -999)])
        self.assert_raises_exactly(InvalidSystem, eased, lowest, {"a": 1000, "b": 0})

    def test_small_systems_by_definition(self):
        chance = random.Random(110)
        for system in oracles.small_systems(111, 200):
            numbers = {name: chance.randint(-4, 4) for name in system.names}
            self.assert_eased(system, numbers, eased_by_definition(system, numbers).rules)
            self.assertTrue(oracles.admitted(eased(system, numbers), numbers))

    def test_wrong_numbers(self):
        for thing in [*objects(), {"a": 0, "b": True}, {"a": 0}, [0, 0], PAIR]:
            self.assert_raises_exactly(InvalidNumbers, eased, PAIR, thing)

    def test_parameters_by_name(self):
        self.assert_same(eased(numbers={"a": 0, "b": 1}, system=PAIR).rules, [("a", "b", 1), ("b", "a", -3)])


class WalkTest(RepairsCase):
    def test_no_settings(self):
        self.assert_same(walk(System([], []), {}, {}), [])

    def test_admitted_numbers_take_the_sequence(self):
        close = System(["a", "b"], [("a", "b", 0), ("b", "a", -1)])
        steps = [("b", 1), ("a", 1), ("b", 1)]
        self.assert_same(walk(close, {"a": 0, "b": 0}, {"a": 1, "b": 2}), steps)
        self.assert_same(walk(PAIR, {"a": 0, "b": 3}, {"a": 2, "b": 5}), [("a", 1), ("a", 1)])
        self.assert_same(walk(PAIR, {"b": 3, "a": 0}, {"a": 0, "b": 3}), [])

    def test_blocks_are_those_of_the_eased_system(self):
        # a and b move together in the system, but apart from each other on the way to it.
        self.assert_walk(PAIR, {"a": 0, "b": 0}, {"a": 0, "b": 3}, walk(PAIR, {"a": 0, "b": 0}, {"a": 0, "b": 3}))
        self.assert_same(walk(PAIR, {"a": 5, "b": 0}, {"a": 0, "b": 3}), [("a", -1)] * 5 + [("b", 1)] * 3)

    def test_small_systems_by_definition(self):
        chance = random.Random(112)
        walked = 0
        for system in oracles.small_systems(113, 200, gap=2):
            if oracles.has_contradiction(system):
                continue
            found = oracles.admitted_in_box(system, 3)
            for new in chance.sample(found, min(4, len(found))):
                old = {name: chance.randint(-4, 4) for name in system.names}
                before = repr([old, new])
                self.assert_walk(system, old, new, walk(system, old, new))
                self.assertEqual(repr([old, new]), before)
                walked += not oracles.admitted(system, old)
        self.assertGreater(walked, 80)

    def test_a_thousand_steps(self):
        names = list(string.ascii_lowercase[:20])
        pairs = list(zip(names, names[1:]))
        rules = [(low, high, gap) for low, high in pairs for gap in (0, 1, 2, 3)]
        system = System(names, [*rules, *[(high, low, -5) for low, high in pairs], ("a", None, -100)])
        old = {name: 0 for name in names}
        new = {name: 22 + 3 * at for at, name in enumerate(names)}
        steps = self.assert_quick(walk, system, old, new, seconds=3)
        self.assert_same(len(steps), sum(new.values()))
        self.assertGreater(len(steps), 1000)
        self.assert_safe(system, [[name] for name in names], old, new, steps)
        price, same = self.assert_quick(repair, Task(system, old, Prices(lowering=999)), seconds=3)
        self.assert_same(price, sum(3 * at for at in range(20)))
        self.assert_same(len(same), price)

    def test_large_systems(self):
        for seed in range(10):
            chance = random.Random(seed)
            system, new = oracles.far_system(seed, rules=chance.randint(30, 100), gap=400)
            old = {name: number + chance.randint(-50, 50) for name, number in new.items()}
            steps = self.assert_quick(walk, system, old, new, seconds=3)
            soft = eased(system, old)
            groups = blocks_of_gaps(soft)
            self.assert_safe(system, groups, old, new, steps)

    def test_any_objects(self):
        good = {"a": 0, "b": 3}
        for thing in [*objects(), {"a": 0, "b": True}, {"a": 0}, [0, 0], PAIR]:
            self.assert_raises_exactly(InvalidNumbers, walk, PAIR, thing, good)
            self.assert_raises_exactly(InvalidNumbers, walk, PAIR, good, thing)
            self.assert_raises_exactly(InvalidNumbers, walk, PAIR, thing, {"a": 0, "b": 0})
            self.assert_raises_exactly(InvalidNumbers, walk, PAIR, {"a": 9999, "b": 0}, thing)

    def test_new_numbers_that_are_not_admitted(self):
        system = System(["a", "b"], [(None, "a", 0), ("a", "b", 2), ("a", "b", 1), ("b", None, -5)])
        for old in ({"a": 0, "b": 3}, {"a": 4, "b": 0}, {"a": 5000, "b": 0}):
            for new, rule in (({"a": -1, "b": 6}, (None, "a", 0)), ({"a": 4, "b": 4}, ("a", "b", 1)),
                              ({"a": 4, "b": 5}, ("a", "b", 2)), ({"a": 4, "b": 6}, ("b", None, -5))):
                self.assert_raises_exactly(NotAdmitted, walk, system, old, new)
                with self.assertRaises(NotAdmitted) as caught:
                    walk(system, old, new)
                self.assert_same(caught.exception.rule, rule)
        self.assert_raises_exactly(NotAdmitted, walk, WRONG, {"a": 0, "b": 0}, {"a": 0, "b": 0})

    def test_gaps_that_would_fall_too_low(self):
        good = {"a": 0, "b": 3}
        self.assert_raises_exactly(InvalidSystem, walk, PAIR, {"a": 1000, "b": 0}, good)
        self.assert_raises_exactly(InvalidSystem, walk, PAIR, {"a": 0, "b": 1000}, good)
        self.assert_walk(PAIR, {"a": 999, "b": 0}, {"a": 600, "b": 603}, walk(PAIR, {"a": 999, "b": 0}, {"a": 600, "b": 603}))

    def test_results_are_new(self):
        walk(PAIR, {"a": 0, "b": 0}, {"a": 0, "b": 3}).clear()
        self.assert_same(walk(PAIR, {"a": 0, "b": 0}, {"a": 0, "b": 3}), [("b", 1)] * 3)

    def test_parameters_by_name(self):
        self.assert_same(walk(new={"a": -1, "b": 2}, old={"a": 0, "b": 1}, system=PAIR), [("a", -1), ("b", 1)])


def blocks_of_gaps(system):
    """The blocks of a large system, by raising gaps along all rules until nothing changes."""
    things = oracles.things_of(system)
    gaps = {(one, one): 0 for one in things}
    for low, high, gap in system.rules:
        gaps[low, high] = max(gap, gaps.get((low, high), gap))
    for middle in things:
        for low in things:
            for high in things:
                if (low, middle) in gaps and (middle, high) in gaps:
                    whole = gaps[low, middle] + gaps[middle, high]
                    gaps[low, high] = max(whole, gaps.get((low, high), whole))

    def together(one, two):
        return (one, two) in gaps and (two, one) in gaps and gaps[one, two] + gaps[two, one] == 0

    loose = [name for name in system.names if not together(None, name)]
    return [list(group) for group in sorted({tuple(other for other in loose if together(name, other)) for name in loose})]


class RepairTest(RepairsCase):
    def assert_repaired(self, task, wanted):
        before = repr([task.numbers, task.system.rules])
        outcome = repair(task)
        self.assertEqual(repr([task.numbers, task.system.rules]), before)
        self.assertEqual([type(outcome), len(outcome)], [tuple, 2])
        price, steps = outcome
        self.assert_same(price, wanted)
        soft = eased_by_definition(task.system, task.numbers)
        named = {block[0]: block for block in oracles.blocks_and_grounded(soft)[0]}
        numbers = task.numbers
        for name, change in steps:
            numbers = {each: number + change * (each in named[name]) for each, number in numbers.items()}
        self.assertTrue(oracles.admitted(task.system, numbers))
        self.assert_same(oracles.price(task, numbers), price)
        self.assert_walk(task.system, task.numbers, numbers, steps)

    def test_no_settings_and_admitted_numbers(self):
        self.assert_same(repair(Task(System([], []), {}, Prices())), (0, []))
        self.assert_same(repair(Task(PAIR, {"a": 5, "b": 8}, Prices())), (0, []))
        # Admitted numbers are not moved, however far from each other they are.
        free = System(["a", "b"], [("a", "b", 3)])
        self.assert_same(repair(Task(free, {"a": -99999, "b": 99999}, Prices())), (0, []))

    def test_small_tasks_by_all_numbers_of_a_box(self):
        repaired = 0
        for task in oracles.small_tasks(114, 200):
            wanted = oracles.least_price_in_box(task, 7)
            if wanted is None:
                kind = Contradiction if oracles.has_contradiction(task.system) else NoSolution
                self.assert_raises_exactly(kind, repair, task)
            else:
                self.assert_repaired(task, wanted)
                repaired += 1
        self.assertGreater(repaired, 80)

    def test_the_order_of_errors(self):
        fixed = Prices().with_price("a", None).with_price("b", None)
        for numbers in ({"a": 0, "b": 1}, {"a": 5000, "b": 0}):
            self.assert_raises_exactly(Contradiction, repair, Task(WRONG, numbers, fixed))
            self.assert_raises_exactly(NoSolution, repair, Task(PAIR, numbers, fixed))
        self.assert_raises_exactly(InvalidSystem, repair, Task(PAIR, {"a": 5000, "b": 0}, Prices()))
        self.assert_raises_exactly(InvalidSystem, repair, Task(PAIR, {"a": 1000, "b": 0}, fixed.with_price("b", 4)))
        self.assert_same(repair(Task(PAIR, {"a": 999, "b": 0}, fixed.with_price("b", 1)))[0], 1002)

    def test_fixed_settings_stay(self):
        task = Task(PAIR, {"a": 0, "b": 1}, Prices(raising=9).with_price("a", None))
        self.assert_same(repair(task), (18, [("b", 1), ("b", 1)]))

    def test_large_tasks(self):
        for seed in range(10):
            chance = random.Random(seed)
            system, numbers = oracles.far_system(seed, gap=400)
            old = {name: number + chance.randint(-10, 10) for name, number in numbers.items()}
            task = Task(system, old, oracles.any_prices(chance, system.names, fixed=0))
            price, steps = self.assert_quick(repair, task, seconds=3)
            groups = blocks_of_gaps(eased(system, old))
            named = {block[0]: block for block in groups}
            new = dict(old)
            for name, change in steps:
                new = {each: number + change * (each in named[name]) for each, number in new.items()}
            self.assert_safe(system, groups, old, new, steps)
            self.assertTrue(oracles.admitted(system, new))
            self.assert_same(oracles.price(task, new), price)
            self.assertFalse(oracles.has_better_move(task, new))

    def test_results_are_new(self):
        task = Task(PAIR, {"a": 0, "b": 0}, Prices(raising=2, lowering=5))
        repair(task)[1].clear()
        self.assert_same(repair(task), (6, [("b", 1)] * 3))

    def test_parameters_by_name(self):
        self.assert_same(repair(task=Task(PAIR, {"a": 0, "b": 0}, Prices(lowering=2))), (3, [("b", 1)] * 3))


if __name__ == "__main__":
    unittest.main()
