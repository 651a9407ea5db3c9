"""Cheapest solutions: promises 8, 9 and 19."""

import random
import unittest

from tests import oracles
from tests.support import Case
from windowsteps.cheapest import cheapest, least_price
from windowsteps.errors import Contradiction, NoSolution
from windowsteps.systems import System
from windowsteps.tasks import Prices, Task

PAIR = System(["a", "b"], [("a", "b", 3)])
WRONG = System(["a", "b", "c"], [("a", "b", 1), ("b", "a", 0), ("b", "c", 5)])


def told(task):
    prices = task.prices
    return repr([task.system.names, task.system.rules, task.numbers, prices.raising, prices.lowering, prices.single])


class CheapestCase(Case):
    def assert_solved(self, task):
        """Checks that what is returned is a solution with its price, and returns the price."""
        before = told(task)
        outcome = cheapest(task)
        self.assertIs(type(outcome), tuple)
        price, numbers = outcome
        self.assertIs(type(price), int)
        self.assert_same(list(numbers), task.system.names)
        for number in numbers.values():
            self.assertIs(type(number), int)
            self.assertTrue(-99999 <= number <= 99999)
        self.assertTrue(oracles.admitted(task.system, numbers))
        self.assertEqual(oracles.price(task, numbers), price)
        self.assert_same(least_price(task), price)
        self.assertEqual(told(task), before)
        return price

    def assert_least(self, task, wanted):
        self.assert_same(self.assert_solved(task), wanted)

    def assert_no_better_move(self, task):
        self.assert_solved(task)
        self.assertFalse(oracles.has_better_move(task, cheapest(task)[1]))

    def assert_none(self, kind, task):
        before = told(task)
        self.assertIsNone(least_price(task))
        self.assert_raises_exactly(kind, cheapest, task)
        self.assertEqual(told(task), before)


class ExamplesTest(Case):
    def test_document(self):
        self.assert_examples("""
>>> from windowsteps.cheapest import cheapest, least_price
>>> from windowsteps.systems import System
>>> from windowsteps.tasks import Prices, Task
>>> system = System(['a', 'b'], [('a', 'b', 3)])
>>> cheapest(Task(system, {'a': 0, 'b': 1}, Prices(lowering=2)))
(2, {'a': 0, 'b': 3})
""")


class SmallTasksTest(CheapestCase):
    def test_no_settings_and_no_rules(self):
        self.assert_same(cheapest(Task(System([], []), {}, Prices())), (0, {}))
        free = Task(System(["b", "a"], []), {"b": 7, "a": 99999}, Prices())
        self.assert_same(cheapest(free), (0, {"a": 99999, "b": 7}))

    def test_old_numbers_that_are_admitted(self):
        for numbers in ({"a": 0, "b": 3}, {"a": -99999, "b": 99999}, {"a": 5, "b": 9}):
            self.assert_same(cheapest(Task(PAIR, numbers, Prices(raising=7))), (0, numbers))

    def test_the_cheaper_side_moves(self):
        old = {"a": 10, "b": 4}
        self.assert_same(cheapest(Task(PAIR, old, Prices(raising=2))), (9, {"a": 1, "b": 4}))
        self.assert_same(cheapest(Task(PAIR, old, Prices(lowering=2))), (9, {"a": 10, "b": 13}))
        self.assert_same(cheapest(Task(PAIR, old, Prices(raising=999, lowering=998))), (8982, {"a": 1, "b": 4}))
        self.assert_same(cheapest(Task(PAIR, old, Prices().with_price("a", 2))), (9, {"a": 10, "b": 13}))
        self.assert_same(cheapest(Task(PAIR, old, Prices(raising=3).with_price("a", 2))), (18, {"a": 1, "b": 4}))
        self.assert_least(Task(PAIR, old, Prices(raising=5, lowering=5)), 45)

    def test_fixed_settings(self):
        old = {"a": 10, "b": 4}
        self.assert_same(cheapest(Task(PAIR, old, Prices().with_price("a", None))), (9, {"a": 10, "b": 13}))
        self.assert_same(cheapest(Task(PAIR, old, Prices().with_price("b", None))), (9, {"a": 1, "b": 4}))
        dear = Prices(raising=999, lowering=1).with_price("a", None).with_price("c", 1)
        self.assert_same(cheapest(Task(PAIR, old, dear)), (8991, {"a": 10, "b": 13}))
        both = Prices().with_price("a", None).with_price("b", None)
        self.assert_same(cheapest(Task(PAIR, {"a": 0, "b": 3}, both)), (0, {"a": 0, "b": 3}))

    def test_names_that_are_not_in_the_system(self):
        prices = Prices().with_price("aa", None).with_price("b", 2).with_price("c", 999)
        self.assert_same(cheapest(Task(PAIR, {"a": 10, "b": 4}, prices)), (9, {"a": 1, "b": 4}))

    def test_a_price_put_in_twice(self):
        prices = Prices().with_price("a", None).with_price("a", 3).with_price("b", 2).with_price("b", None)
        self.assert_same(cheapest(Task(PAIR, {"a": 10, "b": 4}, prices)), (27, {"a": 1, "b": 4}))

    def test_rules_of_the_ground(self):
        system = System(["a", "b"], [(None, "a", 3), ("a", "b", 2), ("b", None, -9)])
        prices = Prices(raising=2, lowering=5)
        wanted = [(0, 0, 16, 3, 5), (3, 20, 55, 3, 9), (20, 6, 71, 7, 9)]
        for a, b, price, new_a, new_b in wanted:
            self.assert_same(cheapest(Task(system, {"a": a, "b": b}, prices)), (price, {"a": new_a, "b": new_b}))

    def test_blocks_and_grounded_settings(self):
        rules = [("a", "b", 2), ("b", "a", -2), ("c", None, -4), (None, "c", 4)]
        task = Task(System(["a", "b", "c"], rules), {"a": 0, "b": 10, "c": 0}, Prices(raising=3, lowering=2))
        self.assert_same(cheapest(task), (28, {"a": 0, "b": 2, "c": 4}))

    def test_several_pull_one(self):
        rules = [("a", "d", 0), ("b", "d", 0), ("c", "d", 0)]
        system = System(list("abcd"), rules)
        old = {"a": 4, "b": 4, "c": 4, "d": 0}
        self.assert_same(cheapest(Task(system, old, Prices(raising=2))), (8, {"a": 4, "b": 4, "c": 4, "d": 4}))
        self.assert_same(cheapest(Task(system, old, Prices(raising=4))), (12, {"a": 0, "b": 0, "c": 0, "d": 0}))
        self.assert_least(Task(system, {**old, "c": 9}, Prices(raising=2)), 13)

    def test_by_all_numbers_of_a_box(self):
        solved = 0
        for task in oracles.small_tasks(50, 200):
            wanted = oracles.least_price_in_box(task, 7)
            if wanted is None:
                self.assert_none(Contradiction if oracles.has_contradiction(task.system) else NoSolution, task)
            else:
                self.assert_least(task, wanted)
                solved += 1
        self.assertGreater(solved, 80)

    def test_other_solutions_have_a_better_move(self):
        for task in oracles.small_tasks(51, 40):
            least = oracles.least_price_in_box(task, 4)
            for numbers in oracles.admitted_in_box(task.system, 4):
                price = oracles.price(task, numbers)
                if price is not None:
                    self.assertIs(oracles.has_better_move(task, numbers), price > least)

    def test_results_are_new(self):
        task = Task(PAIR, {"a": 0, "b": 0}, Prices(lowering=2))
        cheapest(task)[1].clear()
        self.assert_same(cheapest(task), (3, {"a": 0, "b": 3}))
        self.assert_same(task.numbers, {"a": 0, "b": 0})

    def test_what_a_dict_puts_first_means_nothing(self):
        task = Task(PAIR, {"b": 0, "a": 0}, Prices(lowering=2))
        self.assert_same(cheapest(task), (3, {"a": 0, "b": 3}))

    def test_parameters_by_name(self):
        task = Task(PAIR, {"a": 0, "b": 0}, Prices(lowering=2))
        self.assert_same(cheapest(task=task), (3, {"a": 0, "b": 3}))
        self.assert_same(least_price(task=task), 3)


class RangeTest(CheapestCase):
    def test_numbers_far_from_each_other(self):
        task = Task(PAIR, {"a": 99999, "b": -99996}, Prices(raising=999, lowering=998))
        self.assert_same(cheapest(task), (199998 * 998, {"a": -99999, "b": -99996}))
        task = Task(PAIR, {"a": 99996, "b": -99999}, Prices(raising=998, lowering=999))
        self.assert_same(cheapest(task), (199998 * 998, {"a": 99996, "b": 99999}))
        self.assert_least(Task(PAIR, {"a": 99999, "b": -99999}, Prices()), 200001)

    def test_the_only_cheapest_numbers_in_the_range(self):
        step = System(["a", "b"], [("a", "b", 5)])
        for a, b, numbers in ((99999, 99999, {"a": 99994, "b": 99999}), (-99999, -99999, {"a": -99999, "b": -99994})):
            self.assert_same(cheapest(Task(step, {"a": a, "b": b}, Prices())), (5, numbers))

    def test_small_tasks_moved_to_the_ends(self):
        solved = 0
        for task in oracles.small_tasks(52, 150):
            system = System(task.system.names, [rule for rule in task.system.rules if None not in rule])
            level = Task(system, task.numbers, task.prices)
            wanted = oracles.least_price_in_box(level, 6)
            prices = [(oracles.price(level, numbers), numbers) for numbers in oracles.admitted_in_box(system, 6)]
            cheapest_ones = [numbers for price, numbers in prices if price == wanted is not None]
            for far in (99997, -99997):
                # Nothing is promised where all cheapest numbers lie outside of the range.
                if any(all(abs(number + far) <= 99999 for number in row.values()) for row in cheapest_ones):
                    moved = {name: number + far for name, number in level.numbers.items()}
                    self.assert_least(Task(system, moved, level.prices), wanted)
                    solved += 1
        self.assertGreater(solved, 100)

    def test_old_numbers_at_the_ends(self):
        system = System(["a", "b"], [("a", "b", 5), ("b", "a", -7)])
        for a in (-99999, 99999):
            for b in (-99999, 99999):
                self.assert_no_better_move(Task(system, {"a": a, "b": b}, Prices()))


class LargeTasksTest(CheapestCase):
    def test_rows(self):
        chance = random.Random(60)
        for _ in range(30):
            names = list("abcdefghijklmnopqrst")
            gaps = [chance.randint(-999, 999) for _ in names[1:]]
            wide = chance.choice([80000, 2000, 30])
            old = [chance.randint(-wide, wide) for _ in names]
            prices = oracles.any_prices(chance, names, fixed=0)
            system = System(names, [(low, high, gap) for low, high, gap in zip(names, names[1:], gaps)])
            task = Task(system, dict(zip(names, old)), prices)
            wanted = oracles.least_price_of_a_row(gaps, old, [oracles.prices_of(prices, name) for name in names])
            self.assert_quick(cheapest, task)
            self.assert_least(task, wanted)

    def test_tasks_of_every_shape(self):
        for seed in range(40):
            chance = random.Random(seed)
            wide = chance.choice([80000, 3000, 50])
            thin, dense = oracles.far_system(seed, rules=40)[0], oracles.far_system(seed)[0]
            for system in (thin, dense, oracles.bipartite_system(seed)):
                numbers = {name: chance.randint(-wide, wide) for name in system.names}
                task = Task(system, numbers, oracles.any_prices(chance, system.names, fixed=0))
                self.assert_quick(cheapest, task)
                self.assert_quick(least_price, task)
                self.assert_no_better_move(task)

    def test_some_of_the_settings_fixed(self):
        for seed in range(40):
            chance = random.Random(seed)
            system, admitted = oracles.far_system(seed, rules=chance.randint(30, 100))
            prices = oracles.any_prices(chance, system.names)
            moved = {name: admitted[name] + chance.randint(-5000, 5000) for name in admitted}
            kept = {name: admitted[name] for name in admitted if prices.single.get(name, 0) is None}
            self.assert_no_better_move(Task(system, {**moved, **kept}, prices))

    def test_very_many_chains(self):
        ladder = oracles.ladder().with_rules(("t", "a", -3), (None, "k", -50), ("k", None, -50))
        for seed in range(5):
            chance = random.Random(seed)
            numbers = {name: chance.randint(-90000, 90000) for name in ladder.names}
            task = Task(ladder, numbers, oracles.any_prices(chance, ladder.names, fixed=0))
            self.assert_quick(cheapest, task)
            self.assert_no_better_move(task)


class ErrorsTest(CheapestCase):
    def test_a_bind(self):
        prices = Prices().with_price("a", None).with_price("b", None)
        self.assert_none(NoSolution, Task(PAIR, {"a": 0, "b": 2}, prices))
        self.assert_least(Task(PAIR, {"a": 0, "b": 3}, prices), 0)
        ground = System(["a", "b"], [(None, "a", 3), ("a", "b", 1)])
        self.assert_none(NoSolution, Task(ground, {"a": 9, "b": 3}, Prices().with_price("b", None)))
        self.assert_least(Task(ground, {"a": 9, "b": 4}, Prices().with_price("b", None)), 6)

    def test_a_contradiction(self):
        self.assert_none(Contradiction, Task(WRONG, {"a": 0, "b": 0, "c": 0}, Prices()))
        ground = System(["a", "b"], [(None, "a", 3), ("a", None, -2)])
        self.assert_none(Contradiction, Task(ground, {"a": 0, "b": 0}, Prices()))

    def test_a_contradiction_and_a_bind_at_once(self):
        prices = Prices().with_price("b", None).with_price("c", None)
        self.assert_none(Contradiction, Task(WRONG, {"a": 0, "b": 0, "c": 0}, prices))
        self.assert_none(Contradiction, Task(WRONG, {"a": 0, "b": 0, "c": 5}, prices))

    def test_large_tasks(self):
        wrong = oracles.ladder().with_rules(("t", "a", 1))
        task = Task(wrong, {name: 0 for name in wrong.names}, Prices())
        self.assertIsNone(self.assert_quick(least_price, task))
        self.assert_none(Contradiction, task)


if __name__ == "__main__":
    unittest.main()
