"""Binds: promises 8, 9 and 18."""

import unittest

from tests import oracles
from tests.support import Case, mangled, objects
from windowsteps.binds import bind, is_bind
from windowsteps.errors import Contradiction
from windowsteps.systems import System
from windowsteps.tasks import Prices, Task

ROW = System(["a", "b", "c"], [("a", "b", 2), ("b", "c", 2)])
WHOLE = [("a", "b", 2), ("b", "c", 2)]


def fixing(*names):
    prices = Prices()
    for name in names:
        prices = prices.with_price(name, None)
    return prices


def told(task):
    return repr([task.system.names, task.system.rules, task.numbers, task.prices.single])


class BindCase(Case):
    def assert_bind(self, wanted, task):
        """Checks whether a bind is found, and that it is one."""
        before = told(task)
        found = bind(task)
        if wanted:
            self.assertTrue(oracles.is_bind(task, found), found)
            self.assertIs(is_bind(task, found), True)
        else:
            self.assertIsNone(found)
        self.assertEqual(told(task), before)

    def assert_is(self, wanted, task, thing):
        before = told(task) + repr(thing)
        self.assertIs(is_bind(task, thing), wanted, repr(thing))
        self.assertEqual(told(task) + repr(thing), before)


class ExamplesTest(Case):
    def test_document(self):
        self.assert_examples("""
>>> from windowsteps.binds import bind, is_bind
>>> from windowsteps.systems import System
>>> from windowsteps.tasks import Prices, Task
>>> system = System(['a', 'b', 'c'], [('a', 'b', 2), ('b', 'c', 2)])
>>> prices = Prices().with_price('a', None).with_price('c', None)
>>> [bind(Task(system, {'a': 0, 'b': 2, 'c': 3}, prices)), bind(Task(system, {'a': 0, 'b': 0, 'c': 4}, prices))]
[[('a', 'b', 2), ('b', 'c', 2)], None]
""")


class BindTest(BindCase):
    def test_no_settings_and_no_rules(self):
        self.assert_bind(False, Task(System([], []), {}, fixing("a")))
        self.assert_bind(False, Task(System(["a", "b"], []), {"a": 5, "b": -5}, fixing("a", "b")))

    def test_totals_around_the_distance(self):
        for c, wanted in ((3, True), (4, False), (5, False), (-99999, True), (99999, False)):
            self.assert_bind(wanted, Task(ROW, {"a": 0, "b": 9, "c": c}, fixing("a", "c")))
            self.assert_bind(wanted, Task(ROW, {"a": -7, "b": 9, "c": max(c, -99000) - 7}, fixing("a", "c")))

    def test_settings_that_are_not_fixed(self):
        numbers = {"a": 0, "b": -5, "c": -9}
        for names in ((), ("a",), ("b",), ("c",), ("d",), ("a", "d")):
            self.assert_bind(False, Task(ROW, numbers, fixing(*names)))
        for names in (("a", "b"), ("b", "c"), ("a", "c"), ("a", "b", "c")):
            self.assert_bind(True, Task(ROW, numbers, fixing(*names)))

    def test_prices_of_their_own_are_not_fixed(self):
        numbers = {"a": 0, "b": 0, "c": 0}
        self.assert_bind(False, Task(ROW, numbers, fixing("a").with_price("c", 999)))
        self.assert_bind(False, Task(ROW, numbers, fixing("a", "c").with_price("c", 1)))
        self.assert_bind(True, Task(ROW, numbers, fixing("a").with_price("c", 1).with_price("c", None)))

    def test_the_ground_at_either_end(self):
        system = System(["a", "b"], [(None, "a", 3), ("a", "b", 1), ("b", None, -6)])
        for b, wanted in ((3, True), (4, False), (6, False), (7, True)):
            self.assert_bind(wanted, Task(system, {"a": 0, "b": b}, fixing("b")))
        for a, wanted in ((2, True), (3, False), (5, False), (6, True)):
            self.assert_bind(wanted, Task(system, {"a": a, "b": 0}, fixing("a")))
        self.assert_bind(False, Task(system, {"a": -50, "b": 50}, Prices()))

    def test_the_tightest_of_several_chains(self):
        system = System(["a", "b", "c"], [("a", "c", 1), ("a", "b", 3), ("b", "c", -1), ("a", "c", -4)])
        task = Task(system, {"a": 0, "b": 0, "c": 1}, fixing("a", "c"))
        self.assert_same(bind(task), [("a", "b", 3), ("b", "c", -1)])
        self.assert_bind(False, Task(system, {"a": 0, "b": 0, "c": 2}, fixing("a", "c")))

    def test_rings_with_the_total_0(self):
        system = System(["a", "b"], [("a", "b", 2), ("b", "a", -2)])
        for b, wanted in ((1, True), (2, False), (3, True)):
            self.assert_bind(wanted, Task(system, {"a": 0, "b": b}, fixing("a", "b")))
        self.assert_bind(False, Task(system, {"a": 0, "b": 9}, fixing("a")))

    def test_small_tasks_by_all_chains(self):
        seen = {True: 0, False: 0}
        for task in oracles.small_tasks(40, 500, settings=4, rules=8):
            if oracles.has_contradiction(task.system):
                self.assert_raises_exactly(Contradiction, bind, task)
            else:
                wanted = oracles.has_bind(task)
                seen[wanted] += 1
                self.assert_bind(wanted, task)
        self.assertGreater(min(seen.values()), 20)

    def test_if_and_only_if_there_is_no_solution(self):
        for task in oracles.small_tasks(41, 150):
            if not oracles.has_contradiction(task.system):
                self.assert_bind(oracles.least_price_in_box(task, 7) is None, task)

    def test_large_systems(self):
        ladder = oracles.ladder()
        numbers = {name: 0 for name in ladder.names}
        self.assertIsNone(self.assert_quick(bind, Task(ladder, numbers, fixing("a", "t"))))
        numbers["t"] = -1
        found = self.assert_quick(bind, Task(ladder, numbers, fixing("a", "t")))
        self.assert_same(found, [rule for rule in ladder.rules if rule[2] == 0])
        system, numbers = oracles.far_system(42)
        self.assertIsNone(self.assert_quick(bind, Task(system, numbers, fixing(*system.names))))
        low, high, _ = system.rules[-1]
        numbers[low] += 2000
        self.assertIs(self.assert_quick(is_bind, Task(system, numbers, fixing(*system.names)), system.rules[-1:]), True)
        self.assertIsNotNone(self.assert_quick(bind, Task(system, numbers, fixing(*system.names))))

    def test_contradiction(self):
        wrong = System(["a", "b", "c"], [("a", "b", 1), ("b", "a", 0), ("b", "c", 5)])
        for names in ((), ("a",), ("c",), ("a", "c"), ("a", "b", "c")):
            self.assert_raises_exactly(Contradiction, bind, Task(wrong, {"a": 0, "b": 0, "c": 0}, fixing(*names)))

    def test_results_are_new(self):
        task = Task(ROW, {"a": 0, "b": 0, "c": 0}, fixing("a", "c"))
        bind(task).clear()
        self.assert_same(bind(task), WHOLE)
        self.assert_same(ROW.rules, WHOLE)

    def test_parameters_by_name(self):
        task = Task(ROW, {"a": 0, "b": 0, "c": 0}, fixing("a", "c"))
        self.assert_same(bind(task=task), WHOLE)
        self.assertIs(is_bind(thing=WHOLE, task=task), True)


class IsBindTest(BindCase):
    TASK = Task(ROW, {"a": 0, "b": 2, "c": 3}, fixing("a", "c"))

    def test_totals_around_the_distance(self):
        for c, wanted in ((3, True), (4, False), (5, False)):
            self.assert_is(wanted, Task(ROW, {"a": 0, "b": 0, "c": c}, fixing("a", "c")), WHOLE)

    def test_ends_that_are_not_fixed(self):
        for names in ((), ("a",), ("c",), ("b",), ("a", "b"), ("b", "c")):
            self.assert_is(False, Task(ROW, {"a": 0, "b": 0, "c": 0}, fixing(*names)), WHOLE)
        self.assert_is(True, Task(ROW, {"a": 0, "b": 0, "c": 0}, fixing("a", "b")), WHOLE[:1])

    def test_the_ground_at_either_end(self):
        system = System(["a"], [(None, "a", 3), ("a", None, -1)])
        task = Task(system, {"a": 2}, fixing("a"))
        self.assert_is(True, task, [(None, "a", 3)])
        self.assert_is(True, task, [("a", None, -1)])
        self.assert_is(False, Task(system, {"a": 1}, fixing("a")), [("a", None, -1)])
        self.assert_is(False, Task(system, {"a": 3}, fixing("a")), [(None, "a", 3)])
        self.assert_is(False, Task(system, {"a": 2}, Prices()), [(None, "a", 3)])

    def test_a_ring_is_no_bind(self):
        system = System(["a", "b"], [("a", "b", 2), ("b", "a", -1), (None, "a", 1), ("a", None, 1)])
        task = Task(system, {"a": 1, "b": 3}, fixing("a", "b"))
        self.assert_is(False, task, [("a", "b", 2), ("b", "a", -1)])
        self.assert_is(False, task, [("b", "a", -1), ("a", "b", 2)])
        self.assert_is(False, task, [(None, "a", 1), ("a", None, 1)])
        self.assert_is(False, task, [("a", None, 1), (None, "a", 1)])

    def test_a_contradiction_and_a_bind_at_once(self):
        system = System(["a", "b", "c"], [("a", "b", 2), ("b", "a", -1), ("b", "c", 0)])
        task = Task(system, {"a": 0, "b": 0, "c": 1}, fixing("a", "c"))
        self.assert_is(True, task, [("a", "b", 2), ("b", "c", 0)])
        self.assert_raises_exactly(Contradiction, bind, task)
        far = Task(system, {"a": 0, "b": 0, "c": 4}, fixing("a", "c"))
        rounds = [("a", "b", 2), ("b", "a", -1)]
        self.assert_is(False, far, [*rounds * 2, ("a", "b", 2), ("b", "c", 0)])
        self.assert_is(True, far, [*rounds * 3, ("a", "b", 2), ("b", "c", 0)])

    def test_chains_that_pass_an_end_twice(self):
        system = System(["a", "b"], [("a", "b", 2), ("b", "a", -2), ("b", "a", -3)])
        task = Task(system, {"a": 0, "b": 1}, fixing("a", "b"))
        self.assert_is(True, task, [("a", "b", 2), ("b", "a", -2), ("a", "b", 2)])
        self.assert_is(False, task, [("a", "b", 2), ("b", "a", -3), ("a", "b", 2)])

    def test_lists_that_are_no_chain(self):
        for thing in ([], WHOLE[:1], WHOLE[1:], WHOLE[::-1], WHOLE * 2, [WHOLE[0]] * 2 + WHOLE[1:]):
            self.assert_is(False, self.TASK, thing)

    def test_rules_that_are_not_of_the_system(self):
        self.assert_is(False, self.TASK, [("a", "b", 3), ("b", "c", 2)])
        self.assert_is(False, self.TASK, [("a", "c", 4)])
        ones = Task(System(["a", "b"], [("a", "b", 1)]), {"a": 0, "b": 0}, fixing("a", "b"))
        self.assert_is(True, ones, [("a", "b", 1)])
        self.assert_is(False, ones, [("a", "b", True)])

    def test_other_containers(self):
        lists = [list(rule) for rule in WHOLE]
        for thing in (tuple(WHOLE), lists, {0: WHOLE}, dict(enumerate(WHOLE)), [WHOLE], repr(WHOLE)):
            self.assert_is(False, self.TASK, thing)

    def test_any_objects(self):
        for thing in [*objects(), ROW, ROW.names, self.TASK]:
            self.assert_is(False, self.TASK, thing)
            self.assert_is(False, self.TASK, [thing])
            self.assert_is(False, self.TASK, [WHOLE[0], thing, WHOLE[1]])
            self.assert_is(False, Task(System([], []), {}, Prices()), thing)

    def test_results_that_were_changed(self):
        every = Task(ROW, {"a": 0, "b": 1, "c": 2}, fixing("a", "b", "c"))
        for task in (self.TASK, every):
            for thing in mangled(WHOLE):
                self.assert_is(oracles.is_bind(task, thing), task, thing)

    def test_chains_of_small_tasks(self):
        for task in oracles.small_tasks(43, 150):
            for start in oracles.things_of(task.system):
                for found in oracles.simple_chains(task.system, start):
                    self.assert_is(oracles.is_bind(task, found), task, found)


if __name__ == "__main__":
    unittest.main()
