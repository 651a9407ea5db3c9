"""Merging: promise 22."""

import itertools
import unittest

from tests.support import Case, objects
from windowsteps.cheapest import cheapest
from windowsteps.errors import InvalidNumbers
from windowsteps.merging import conflicts, merge_task, merged
from windowsteps.systems import System
from windowsteps.tasks import Prices, Task

FREE = System(["a", "b", "c"], [])
PAIR = System(["a", "b"], [("a", "b", 3)])


def wanted_number(t, u, v):
    """The merged number by the words of the document, and whether there is a conflict."""
    if u == v or v == t:
        return u, False
    if u == t:
        return v, False
    between = range(min(u, v), max(u, v) + 1)
    return min(between, key=lambda number: abs(number - t)), True


class MergingCase(Case):
    def assert_merged(self, system, base, one, two, wanted, names):
        before = repr([base, one, two])
        self.assert_same(merged(system, base, one, two), wanted)
        self.assert_same(conflicts(system, base, one, two), names)
        task = merge_task(system, base, one, two, Prices())
        self.assertIs(type(task), Task)
        self.assert_same(task.numbers, wanted)
        self.assertEqual(repr([base, one, two]), before)


class ExamplesTest(Case):
    def test_document(self):
        self.assert_examples("""
>>> from windowsteps.merging import conflicts, merged
>>> from windowsteps.systems import System
>>> system = System(['a', 'b', 'c'], [])
>>> base, one, two = {'a': 0, 'b': 0, 'c': 0}, {'a': 2, 'b': 3, 'c': -1}, {'a': 0, 'b': 1, 'c': 4}
>>> [merged(system, base, one, two), conflicts(system, base, one, two)]
[{'a': 2, 'b': 1, 'c': 0}, ['b', 'c']]
""")


class MergedTest(MergingCase):
    def test_no_settings(self):
        self.assert_merged(System([], []), {}, {}, {}, {}, [])

    def test_one_setting(self):
        system = System(["a"], [])
        cases = [
            (0, 0, 0, 0, False), (0, 5, 5, 5, False), (0, 5, 0, 5, False), (0, 0, 5, 5, False),
            (0, 3, 5, 3, True), (0, 5, 3, 3, True), (0, -3, -5, -3, True), (0, -5, -3, -3, True),
            (0, -3, 5, 0, True), (0, 5, -3, 0, True), (0, -1, 1, 0, True), (7, 8, 9, 8, True), (7, 6, 5, 6, True),
            (-99999, 99999, 99998, 99998, True), (99999, -99999, 0, 0, True), (1, -99999, 99999, 1, True),
            (99999, -99999, 99999, -99999, False), (-99999, -99999, 99999, 99999, False),
        ]
        for t, u, v, number, is_conflict in cases:
            self.assert_merged(system, {"a": t}, {"a": u}, {"a": v}, {"a": number}, ["a"] if is_conflict else [])

    def test_all_numbers_of_a_small_range(self):
        rows = list(itertools.product(range(-3, 4), repeat=3))
        for first, second, third in zip(rows, rows[50:] + rows[:50], rows[::-1]):
            base, one, two = [dict(zip("abc", row)) for row in zip(first, second, third)]
            found = {name: wanted_number(base[name], one[name], two[name]) for name in "abc"}
            numbers = {name: number for name, (number, _) in found.items()}
            self.assert_merged(FREE, base, one, two, numbers, [name for name in "abc" if found[name][1]])

    def test_the_sides_are_alike(self):
        base, one, two = {"a": 0, "b": 0, "c": 0}, {"a": 2, "b": 3, "c": -1}, {"a": 0, "b": 1, "c": 4}
        for left, right in ((one, two), (two, one)):
            self.assert_merged(FREE, base, left, right, {"a": 2, "b": 1, "c": 0}, ["b", "c"])

    def test_numbers_need_not_be_admitted(self):
        base, one, two = {"a": 0, "b": 0}, {"a": 9, "b": 0}, {"a": 0, "b": -9}
        self.assert_merged(PAIR, base, one, two, {"a": 9, "b": -9}, [])
        wrong = System(["a", "b"], [("a", "b", 1), ("b", "a", 0)])
        self.assert_merged(wrong, base, one, two, {"a": 9, "b": -9}, [])

    def test_the_order_of_the_keys_means_nothing(self):
        base, one, two = {"c": 0, "a": 0, "b": 0}, {"b": 3, "c": -1, "a": 2}, {"c": 4, "b": 1, "a": 3}
        self.assert_merged(FREE, base, one, two, {"a": 2, "b": 1, "c": 0}, ["a", "b", "c"])

    def test_results_are_new(self):
        base, one, two = {"a": 0, "b": 0, "c": 0}, {"a": 1, "b": 2, "c": 0}, {"a": 2, "b": 0, "c": 0}
        for same in (base, one, two):
            merged(FREE, same, same, same).clear()
        merged(FREE, base, one, two).clear()
        conflicts(FREE, base, one, two).clear()
        self.assert_merged(FREE, base, one, two, {"a": 1, "b": 2, "c": 0}, ["a"])

    def test_numbers_are_judged_by_what_they_hold(self):
        base, one, two = {"a": 0, "b": 0}, {"a": 0, "b": 0}, {"a": 0, "b": 0}
        self.assert_merged(PAIR, base, one, two, {"a": 0, "b": 0}, [])
        one["a"] = 5
        self.assert_merged(PAIR, base, one, two, {"a": 5, "b": 0}, [])
        two["a"] = 4
        self.assert_merged(PAIR, base, one, two, {"a": 4, "b": 0}, ["a"])
        base["a"] = 100000
        self.assert_raises_exactly(InvalidNumbers, merged, PAIR, base, one, two)

    def test_one_dict_for_all(self):
        numbers = {"a": 7, "b": -7}
        self.assert_merged(PAIR, numbers, numbers, numbers, {"a": 7, "b": -7}, [])

    def test_parameters_by_name(self):
        given = {"two": {"a": 4, "b": 0}, "base": {"a": 0, "b": 0}, "one": {"a": 5, "b": 0}, "system": PAIR}
        self.assert_same(merged(**given), {"a": 4, "b": 0})
        self.assert_same(conflicts(**given), ["a"])
        self.assert_same(merge_task(prices=Prices(raising=9), **given).numbers, {"a": 4, "b": 0})


class MergeTaskTest(MergingCase):
    def test_a_task_with_system_and_prices(self):
        prices = Prices(raising=2, lowering=9).with_price("c", None)
        task = merge_task(PAIR, {"a": 0, "b": 3}, {"a": 4, "b": 7}, {"a": 0, "b": 5}, prices)
        self.assertTrue(task.system == PAIR)
        self.assert_same(task.numbers, {"a": 4, "b": 5})
        self.assert_same([task.prices.raising, task.prices.lowering, task.prices.single], [2, 9, {"c": None}])
        self.assert_same(cheapest(task), (4, {"a": 4, "b": 7}))

    def test_arguments_are_copied(self):
        base, one, two = {"a": 0, "b": 0}, {"a": 5, "b": 0}, {"a": 0, "b": 0}
        task = merge_task(PAIR, base, one, two, Prices())
        for numbers in (base, one, two):
            numbers["a"] = 50
        task.numbers["a"] = 50
        self.assert_same(task.numbers, {"a": 5, "b": 0})


class ErrorsTest(Case):
    def test_any_objects(self):
        good = {"a": 0, "b": 0}
        calls = [merged, conflicts, lambda system, base, one, two: merge_task(system, base, one, two, Prices())]
        for thing in [*objects(), {"a": True, "b": 0}, {"a": 0, "b": False}, {"a": 0}, [0, 0], PAIR]:
            for call in calls:
                self.assert_raises_exactly(InvalidNumbers, call, PAIR, thing, good, good)
                self.assert_raises_exactly(InvalidNumbers, call, PAIR, good, thing, good)
                self.assert_raises_exactly(InvalidNumbers, call, PAIR, good, good, thing)
                self.assert_raises_exactly(InvalidNumbers, call, PAIR, thing, thing, thing)


if __name__ == "__main__":
    unittest.main()
