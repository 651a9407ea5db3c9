"""Better moves: promises 8, 9 and 21."""

import random
import unittest

from tests import oracles
from tests.support import Case, objects
from windowsteps.better import better_move, is_better
from windowsteps.cheapest import cheapest, least_price
from windowsteps.errors import InvalidNumbers, NotASolution
from windowsteps.systems import System
from windowsteps.tasks import Prices, Task

PAIR = System(["a", "b"], [("a", "b", 3)])
TIED = System(["a", "b"], [("a", "b", 0), ("b", "a", 0)])
WRONG = System(["a", "b"], [("a", "b", 1), ("b", "a", 0)])


def told(task, numbers):
    prices = task.prices
    parts = [task.system.names, task.system.rules, task.numbers, prices.raising, prices.lowering, prices.single]
    return repr([*parts, numbers])


class BetterCase(Case):
    def assert_found(self, task, numbers):
        """Checks that a better move is found, and returns the numbers after it."""
        before = told(task, numbers)
        move = better_move(task, numbers)
        self.assertIs(is_better(task, numbers, move), True)
        self.assertEqual(told(task, numbers), before)
        names, change = move
        self.assertEqual([type(move), type(names), type(change)], [tuple, tuple, int])
        self.assertEqual(list(names), sorted(set(names)))
        self.assertTrue(names and set(names) <= set(task.system.names) and change in (1, -1))
        after = {name: worth + change * (name in names) for name, worth in numbers.items()}
        self.assertTrue(oracles.admitted(task.system, after))
        self.assertLess(oracles.price(task, after), oracles.price(task, numbers))
        return after

    def assert_none(self, task, numbers):
        before = told(task, numbers)
        self.assertIsNone(better_move(task, numbers))
        self.assertEqual(told(task, numbers), before)

    def assert_is(self, wanted, task, numbers, thing):
        before = told(task, numbers) + repr(thing)
        self.assertIs(is_better(task, numbers, thing), wanted, repr(thing))
        self.assertEqual(told(task, numbers) + repr(thing), before)


class ExamplesTest(Case):
    def test_document(self):
        self.assert_examples("""
>>> from windowsteps.better import better_move, is_better
>>> from windowsteps.systems import System
>>> from windowsteps.tasks import Prices, Task
>>> task = Task(System(['a', 'b'], [('a', 'b', 0), ('b', 'a', 0)]), {'a': 0, 'b': 0}, Prices())
>>> [better_move(task, {'a': 2, 'b': 2}), is_better(task, {'a': 2, 'b': 2}, (('a',), -1))]
[(('a', 'b'), -1), False]
""")


class BetterMoveTest(BetterCase):
    def test_no_settings_and_no_rules(self):
        self.assert_none(Task(System([], []), {}, Prices()), {})
        free = Task(System(["a", "b"], []), {"a": 5, "b": -5}, Prices())
        self.assert_none(free, {"a": 5, "b": -5})
        self.assertEqual(better_move(free, {"a": 6, "b": -5}), (("a",), -1))
        self.assertEqual(better_move(free, {"a": 5, "b": -7}), (("b",), 1))
        self.assert_found(free, {"a": 99999, "b": -99999})

    def test_cheapest_solutions_have_none(self):
        for prices in (Prices(), Prices(raising=2), Prices(lowering=7), Prices().with_price("a", None)):
            task = Task(PAIR, {"a": 10, "b": 4}, prices)
            self.assert_none(task, cheapest(task)[1])
        # With equal prices all solutions in between are cheapest ones.
        for a in range(1, 11):
            self.assert_none(Task(PAIR, {"a": 10, "b": 4}, Prices()), {"a": a, "b": a + 3})

    def test_all_settings_fixed(self):
        fixed = Task(PAIR, {"a": 0, "b": 9}, Prices().with_price("a", None).with_price("b", None))
        self.assert_none(fixed, {"a": 0, "b": 9})
        for move in oracles.all_moves(PAIR):
            self.assert_is(False, fixed, {"a": 0, "b": 9}, move)

    def test_some_settings_fixed(self):
        task = Task(PAIR, {"a": 0, "b": 1}, Prices().with_price("a", None))
        self.assertEqual(better_move(task, {"a": 0, "b": 5}), (("b",), -1))
        self.assert_none(task, {"a": 0, "b": 3})
        tied = Task(TIED, {"a": 4, "b": 4}, Prices().with_price("b", None))
        self.assert_none(tied, {"a": 4, "b": 4})

    def test_a_move_may_pay_for_what_it_pulls(self):
        system = System(["a", "b", "c"], [("a", "b", 0), ("a", "c", 0)])
        old = {"a": 3, "b": 0, "c": 0}
        dear = Task(system, old, Prices(raising=2).with_price("a", 5))
        self.assertEqual(better_move(dear, {"a": 0, "b": 0, "c": 0}), (("a", "b", "c"), 1))
        self.assert_none(dear, {"a": 3, "b": 3, "c": 3})
        cheap = Task(system, old, Prices(raising=2).with_price("a", 3))
        self.assert_none(cheap, {"a": 0, "b": 0, "c": 0})
        self.assertEqual(better_move(cheap, {"a": 3, "b": 3, "c": 3}), (("a", "b", "c"), -1))
        equal = Task(system, old, Prices(raising=2).with_price("a", 4))
        for a in range(4):
            self.assert_none(equal, {"a": a, "b": a, "c": a})

    def test_small_tasks_by_all_moves(self):
        seen = {True: 0, False: 0}
        for task in oracles.small_tasks(80, 80):
            least = oracles.least_price_in_box(task, 5)
            for numbers in oracles.solutions_in_box(task, 3):
                moves = oracles.better_moves(task, numbers)
                self.assertEqual(bool(moves), oracles.price(task, numbers) > least)
                if moves:
                    self.assert_found(task, numbers)
                else:
                    self.assert_none(task, numbers)
                for move in oracles.all_moves(task.system):
                    self.assert_is(move in moves, task, numbers, move)
                seen[bool(moves)] += 1
        self.assertGreater(min(seen.values()), 50)

    def test_better_moves_lead_to_the_least_price(self):
        for task in oracles.small_tasks(81, 60, settings=4, rules=8):
            for numbers in oracles.solutions_in_box(task, 3)[::40]:
                while better_move(task, numbers) is not None:
                    numbers = self.assert_found(task, numbers)
                self.assert_same(oracles.price(task, numbers), least_price(task))

    def test_the_order_of_the_keys_means_nothing(self):
        task = Task(TIED, {"b": 0, "a": 0}, Prices())
        self.assert_same(better_move(task, {"b": 2, "a": 2}), (("a", "b"), -1))
        self.assertIs(is_better(task, {"b": 2, "a": 2}, (("a", "b"), -1)), True)

    def test_numbers_are_judged_by_what_they_hold(self):
        task = Task(TIED, {"a": 0, "b": 0}, Prices())
        numbers = {"a": 2, "b": 2}
        self.assert_same(better_move(task, numbers), (("a", "b"), -1))
        numbers["a"] = numbers["b"] = -1
        self.assert_same(better_move(task, numbers), (("a", "b"), 1))
        self.assertIs(is_better(task, numbers, (("a", "b"), -1)), False)
        numbers["a"] = 0
        self.assert_raises_exactly(NotASolution, better_move, task, numbers)
        numbers["b"] = 0
        self.assert_none(task, numbers)
        numbers["b"] = False
        self.assert_raises_exactly(InvalidNumbers, better_move, task, numbers)

    def test_parameters_by_name(self):
        task = Task(TIED, {"a": 0, "b": 0}, Prices())
        self.assert_same(better_move(numbers={"a": 2, "b": 2}, task=task), (("a", "b"), -1))
        self.assertIs(is_better(thing=(("a", "b"), -1), numbers={"a": 2, "b": 2}, task=task), True)


class RangeTest(BetterCase):
    def test_solutions_at_the_ends(self):
        for end in (99999, -99999):
            task = Task(PAIR, {"a": end, "b": end}, Prices(raising=3).with_price("a", 2))
            for shift in (0, -10, 10):
                numbers = {"a": end + shift - 3, "b": end + shift}
                if all(abs(worth) <= 99999 for worth in numbers.values()):
                    self.assertEqual(better_move(task, numbers) is not None, is_worse(task, numbers))

    def test_numbers_far_from_each_other(self):
        task = Task(PAIR, {"a": 99999, "b": -99996}, Prices(raising=999, lowering=998))
        self.assert_none(task, {"a": -99999, "b": -99996})
        self.assert_found(task, {"a": -99999, "b": 99999})
        self.assert_found(task, {"a": 99996, "b": 99999})

    def test_moves_out_of_the_range(self):
        # What would be cheaper lies out of the range, so that there is no such solution.
        task = Task(PAIR, {"a": 99999, "b": 99999}, Prices(lowering=2))
        numbers = {"a": 99996, "b": 99999}
        self.assert_none(task, numbers)
        self.assert_is(False, task, numbers, (("a", "b"), 1))
        self.assert_found(task, {"a": 99990, "b": 99999})


def is_worse(task, numbers):
    """Whether a solution is not a cheapest one, if the cheapest ones lie in the range."""
    return oracles.price(task, numbers) > least_price(task)


class LargeTasksTest(BetterCase):
    def test_tasks_of_every_shape(self):
        for seed in range(40):
            chance = random.Random(seed)
            wide = chance.choice([80000, 3000, 50])
            for system in (oracles.far_system(seed, rules=40)[0], oracles.far_system(seed)[0], oracles.bipartite_system(seed)):
                old = {name: chance.randint(-wide, wide) for name in system.names}
                task = Task(system, old, oracles.any_prices(chance, system.names, fixed=0))
                numbers = cheapest(task)[1]
                self.assertIsNone(self.assert_quick(better_move, task, numbers, seconds=0.5))
                other = cheapest(Task(system, old, Prices(raising=chance.randint(1, 9), lowering=3)))[1]
                move = self.assert_quick(better_move, task, other, seconds=0.5)
                self.assertEqual(move is not None, oracles.has_better_move(task, other))
                if move is not None:
                    self.assert_found(task, other)
                    self.assertIs(self.assert_quick(is_better, task, other, move), True)

    def test_some_of_the_settings_fixed(self):
        found = 0
        for seed in range(60):
            chance = random.Random(seed)
            system, numbers = oracles.far_system(seed, rules=chance.randint(30, 100))
            prices = oracles.any_prices(chance, system.names)
            kept = {name: numbers[name] for name in numbers if prices.single.get(name, 0) is None}
            moved = {name: numbers[name] + chance.randint(-50, 50) for name in numbers}
            task = Task(system, {**moved, **kept}, prices)
            move = self.assert_quick(better_move, task, numbers, seconds=0.5)
            self.assertEqual(move is not None, oracles.has_better_move(task, numbers))
            if move is not None:
                self.assert_found(task, numbers)
                found += 1
        self.assertGreater(found, 20)

    def test_a_long_row_that_only_moves_as_one(self):
        names = list("abcdefghijklmnopqrst")
        rules = [rule for low, high in zip(names, names[1:]) for rule in ((low, high, 5), (high, low, -5))]
        numbers = {name: 5 * at for at, name in enumerate(names)}
        for change in (1, -1):
            old = {name: worth + 1000 * change for name, worth in numbers.items()}
            task = Task(System(names, rules), old, Prices(raising=999, lowering=1))
            self.assert_same(better_move(task, numbers), (tuple(names), change))


class IsBetterTest(BetterCase):
    TASK = Task(System(["a", "b", "c"], [("a", "b", 0)]), {"a": 0, "b": 0, "c": 0}, Prices())
    NUMBERS = {"a": 2, "b": 2, "c": 2}

    def test_what_lowers_the_price(self):
        for names in (("a",), ("a", "b"), ("a", "b", "c"), ("c",), ("a", "c")):
            self.assert_is(True, self.TASK, self.NUMBERS, (names, -1))
            self.assert_is(False, self.TASK, self.NUMBERS, (names, 1))
        # b would fall below a.
        for names in (("b",), ("b", "c")):
            self.assert_is(False, self.TASK, self.NUMBERS, (names, -1))

    def test_moves_that_cost_nothing_are_not_better(self):
        task = Task(PAIR, {"a": 10, "b": 4}, Prices())
        for change in (1, -1):
            self.assert_is(False, task, {"a": 5, "b": 8}, (("a", "b"), change))

    def test_numbers_that_are_not_a_better_solution(self):
        self.assert_is(False, self.TASK, {"a": 0, "b": 0, "c": 0}, (("a",), -1))
        task = Task(PAIR, {"a": 0, "b": 0}, Prices().with_price("a", None))
        self.assert_is(True, task, {"a": 0, "b": 9}, (("b",), -1))
        self.assert_is(False, task, {"a": 0, "b": 9}, (("a", "b"), -1))

    def test_names_out_of_order_or_twice(self):
        for names in (("b", "a"), ("c", "b", "a"), ("a", "a"), ("a", "b", "b"), ("a", "c", "b"), ("a", "b", "a")):
            self.assert_is(False, self.TASK, self.NUMBERS, (names, -1))

    def test_what_is_no_move(self):
        names = ("a", "b")
        self.assert_is(True, self.TASK, self.NUMBERS, (names, -1))
        things = [
            ((), -1), ((), 1), ("a", -1), ("ab", -1), (["a", "b"], -1), [("a", "b"), -1], (names,), (names, -1, -1),
            (names, -2), (names, 0), (names, 2), (names, "-1"), (names, None), (names, (-1,)), (-1, names),
            (("a", "d"), -1), (("a", None), -1), ((None,), -1), (("a", 1), -1), (("a", True), -1), (("a", ("b",)), -1),
            (("a", ["b"]), -1), (("a", {}), -1), (("A", "b"), -1), (("", "a"), -1), (({"a": 1},), -1),
            ({"a": 0, "b": 0}, -1), {names: -1}, (names, -10 ** 39), (("a",) * 5000, -1), (names, [-1]), -1, names,
        ]
        for thing in things:
            self.assert_is(False, self.TASK, self.NUMBERS, thing)

    def test_true_and_false_are_no_changes(self):
        low = {"a": -2, "b": -2, "c": -2}
        self.assert_is(True, self.TASK, low, (("c",), 1))
        self.assert_is(False, self.TASK, low, (("c",), True))
        self.assert_is(False, self.TASK, low, (("c",), False))

    def test_any_objects(self):
        for thing in [*objects(), self.TASK, Prices()]:
            self.assert_is(False, self.TASK, self.NUMBERS, thing)
            self.assert_is(thing in (("a",), ("a", "b")), self.TASK, self.NUMBERS, (thing, -1))
            self.assert_is(repr(thing) == "-1", self.TASK, self.NUMBERS, (("c",), thing))
            if thing not in ("a", "b"):
                self.assert_is(False, self.TASK, self.NUMBERS, (("a", thing), -1))


class ErrorsTest(BetterCase):
    def test_any_objects_in_place_of_numbers(self):
        task = Task(PAIR, {"a": 0, "b": 9}, Prices())
        for thing in [*objects(), task, {"a": 0, "b": True}, {"a": 0}, [0, 9]]:
            self.assert_raises_exactly(InvalidNumbers, better_move, task, thing)
            for move in ((("b",), -1), None, thing):
                self.assert_raises_exactly(InvalidNumbers, is_better, task, thing, move)

    def test_numbers_that_are_no_solution(self):
        task = Task(PAIR, {"a": 0, "b": 9}, Prices().with_price("a", None))
        for numbers in ({"a": 0, "b": 2}, {"a": 1, "b": 9}, {"a": -1, "b": 2}, {"a": 99999, "b": -99999}):
            self.assert_raises_exactly(NotASolution, better_move, task, numbers)
            for move in ((("b",), -1), None, True, numbers):
                self.assert_raises_exactly(NotASolution, is_better, task, numbers, move)

    def test_with_a_contradiction_there_is_no_solution(self):
        task = Task(WRONG, {"a": 0, "b": 0}, Prices())
        for numbers in ({"a": 0, "b": 0}, {"a": 0, "b": 1}):
            self.assert_raises_exactly(NotASolution, better_move, task, numbers)
            self.assert_raises_exactly(NotASolution, is_better, task, numbers, (("a",), 1))
        self.assert_raises_exactly(InvalidNumbers, better_move, task, {"a": 0})


if __name__ == "__main__":
    unittest.main()
