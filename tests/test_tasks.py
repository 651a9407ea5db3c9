"""Prices and tasks: promises 8 and 17."""

import unittest

from tests import oracles
from tests.support import Case, objects
from windowsteps.errors import InvalidNumbers, InvalidPrices
from windowsteps.systems import System
from windowsteps.tasks import Prices, Task, is_solution, price_of

PAIR = System(["a", "b"], [("a", "b", 3)])
NO_PRICES = [0, -1, 1000, 10 ** 39, True, False, "1", "", [1], (1,), {}, {1: 1}]


class ExamplesTest(Case):
    def test_document(self):
        self.assert_examples("""
>>> from windowsteps.systems import System
>>> from windowsteps.tasks import Prices, Task, is_solution, price_of
>>> task = Task(System(['a', 'b'], [('a', 'b', 3)]), {'a': 0, 'b': 1}, Prices(raising=2).with_price('a', 5))
>>> [price_of(task, {'a': -1, 'b': 3}), is_solution(task, {'a': 0, 'b': 2})]
[9, False]
""")


class PricesTest(Case):
    def assert_prices(self, prices, raising, lowering, single):
        self.assertIs(type(prices), Prices)
        self.assert_same([prices.raising, prices.lowering, prices.single], [raising, lowering, single])

    def test_arguments_left_out(self):
        self.assert_prices(Prices(), 1, 1, {})
        self.assert_prices(Prices(raising=7), 7, 1, {})
        self.assert_prices(Prices(lowering=7), 1, 7, {})
        self.assert_prices(Prices(lowering=8, raising=7), 7, 8, {})

    def test_the_least_and_the_greatest_price(self):
        self.assert_prices(Prices(raising=1, lowering=999), 1, 999, {})
        self.assert_prices(Prices(raising=999, lowering=1), 999, 1, {})
        self.assert_prices(Prices().with_price("a", 1).with_price("b", 999), 1, 1, {"a": 1, "b": 999})

    def test_wrong_prices(self):
        for price in [None, *NO_PRICES, *objects(), Prices()]:
            if repr(price) not in ("1", "999"):
                self.assert_raises_exactly(InvalidPrices, Prices, raising=price)
                self.assert_raises_exactly(InvalidPrices, Prices, lowering=price)
                self.assert_raises_exactly(InvalidPrices, Prices, raising=price, lowering=5)
                self.assert_raises_exactly(InvalidPrices, Prices, raising=5, lowering=price)
                self.assert_raises_exactly(InvalidPrices, Prices, raising=price, lowering=price)

    def test_prices_of_their_own(self):
        prices = Prices(raising=2, lowering=3)
        more = prices.with_price("b", 5).with_price("a", None)
        self.assert_prices(more, 2, 3, {"a": None, "b": 5})
        all_of_them = {"a": None, "aa": 7, "abcdefgh": 6, "b": 5}
        self.assert_prices(more.with_price("abcdefgh", 6).with_price("aa", 7), 2, 3, all_of_them)
        self.assert_prices(prices, 2, 3, {})

    def test_a_later_price_replaces_an_earlier_one(self):
        first = Prices().with_price("b", 5).with_price("a", 9)
        second = first.with_price("b", 6)
        third = second.with_price("b", None)
        fourth = third.with_price("b", 7)
        self.assert_prices(first, 1, 1, {"a": 9, "b": 5})
        self.assert_prices(second, 1, 1, {"a": 9, "b": 6})
        self.assert_prices(third, 1, 1, {"a": 9, "b": None})
        self.assert_prices(fourth, 1, 1, {"a": 9, "b": 7})
        self.assert_prices(fourth.with_price("b", 7), 1, 1, {"a": 9, "b": 7})

    def test_parameters_by_name(self):
        self.assert_prices(Prices().with_price(price=4, name="a"), 1, 1, {"a": 4})
        self.assert_prices(Prices().with_price(price=None, name="a"), 1, 1, {"a": None})

    def test_wrong_names(self):
        prices = Prices(raising=2).with_price("b", 5)
        for name in [*objects(), "abcdefghi", "A", "a1", "a ", " a", "a\n", "\t", "-", "`", "{", ["a"], ("a",), prices]:
            if name not in ("a", "b", "ab"):
                for price in (1, 999, None, 0, True):
                    self.assert_raises_exactly(InvalidPrices, prices.with_price, name, price)
        self.assert_prices(prices, 2, 1, {"b": 5})

    def test_wrong_prices_of_their_own(self):
        prices = Prices(raising=2).with_price("b", 5)
        for price in [*NO_PRICES, *objects(), prices]:
            if repr(price) not in ("1", "999", "None"):
                for name in ("a", "b"):
                    self.assert_raises_exactly(InvalidPrices, prices.with_price, name, price)
        self.assert_prices(prices, 2, 1, {"b": 5})

    def test_returned_dicts_are_new(self):
        prices = Prices().with_price("b", 5)
        prices.single["b"] = 6
        prices.single.clear()
        self.assertIsNot(prices.single, prices.single)
        self.assert_prices(prices, 1, 1, {"b": 5})
        more = prices.with_price("c", 1)
        more.single.clear()
        self.assert_prices(more, 1, 1, {"b": 5, "c": 1})
        self.assert_prices(prices, 1, 1, {"b": 5})


class TaskTest(Case):
    def test_properties(self):
        prices = Prices(raising=2).with_price("a", 5)
        task = Task(PAIR, {"b": 1, "a": 0}, prices)
        self.assertTrue(task.system == PAIR)
        self.assert_same(task.numbers, {"a": 0, "b": 1})
        self.assertIs(type(task.prices), Prices)
        self.assert_same([task.prices.raising, task.prices.lowering, task.prices.single], [2, 1, {"a": 5}])

    def test_no_settings(self):
        task = Task(System([], []), {}, Prices())
        self.assert_same(task.numbers, {})
        self.assert_same(price_of(task, {}), 0)
        self.assertIs(is_solution(task, {}), True)

    def test_old_numbers_need_not_be_admitted(self):
        self.assert_same(Task(PAIR, {"a": 99999, "b": -99999}, Prices()).numbers, {"a": 99999, "b": -99999})
        wrong = System(["a"], [(None, "a", 1), ("a", None, 0)])
        self.assert_same(Task(wrong, {"a": 5}, Prices()).numbers, {"a": 5})

    def test_arguments_are_copied(self):
        numbers = {"b": 1, "a": 0}
        task = Task(PAIR, numbers, Prices())
        self.assertEqual(repr(numbers), "{'b': 1, 'a': 0}")
        numbers["a"] = 50
        self.assert_same(task.numbers, {"a": 0, "b": 1})
        task.numbers["a"] = 50
        task.numbers.clear()
        task.prices.single["a"] = None
        self.assert_same(task.numbers, {"a": 0, "b": 1})
        self.assert_same(price_of(task, {"a": 1, "b": 1}), 1)

    def test_prices_made_from_its_own_change_nothing(self):
        task = Task(PAIR, {"a": 0, "b": 1}, Prices())
        task.prices.with_price("a", 9)
        self.assert_same(task.prices.single, {})
        self.assert_same(price_of(task, {"a": 1, "b": 1}), 1)

    def test_wrong_numbers(self):
        for thing in [*objects(), [0, 1], {"a": True, "b": 0}, {"a": 0}]:
            self.assert_raises_exactly(InvalidNumbers, Task, PAIR, thing, Prices())

    def test_parameters_by_name(self):
        task = Task(prices=Prices(), numbers={"a": 0, "b": 1}, system=PAIR)
        self.assert_same(task.numbers, {"a": 0, "b": 1})
        self.assert_same(price_of(numbers={"a": 1, "b": 3}, task=task), 3)
        self.assertIs(is_solution(numbers={"a": 0, "b": 3}, task=task), True)


class PriceOfTest(Case):
    def assert_price(self, wanted, task, numbers):
        before = repr([task.numbers, task.prices.single, numbers])
        self.assert_same(price_of(task, numbers), wanted)
        self.assertEqual(repr([task.numbers, task.prices.single, numbers]), before)

    def test_raising_and_lowering(self):
        task = Task(PAIR, {"a": 10, "b": -10}, Prices(raising=3, lowering=5))
        prices = ((10, -10, 0), (12, -10, 6), (7, -10, 15), (10, -6, 12), (10, -13, 15), (8, -9, 13), (0, 0, 80))
        for a, b, wanted in prices:
            self.assert_price(wanted, task, {"a": a, "b": b})

    def test_prices_of_their_own_replace_both(self):
        task = Task(PAIR, {"a": 0, "b": 0}, Prices(raising=3, lowering=5).with_price("a", 7))
        for a, b, wanted in ((1, 0, 7), (-1, 0, 7), (0, 1, 3), (0, -1, 5), (-2, 2, 20)):
            self.assert_price(wanted, task, {"a": a, "b": b})

    def test_fixed_settings(self):
        task = Task(PAIR, {"a": 4, "b": 0}, Prices(raising=3).with_price("a", None))
        self.assert_price(0, task, {"a": 4, "b": 0})
        self.assert_price(6, task, {"a": 4, "b": 2})
        self.assert_price(None, task, {"a": 5, "b": 0})
        self.assert_price(None, task, {"a": 3, "b": 0})
        free = Task(PAIR, {"a": 4, "b": 0}, task.prices.with_price("a", 2))
        self.assert_price(2, free, {"a": 5, "b": 0})
        none = Task(PAIR, {"a": 4, "b": 0}, task.prices.with_price("b", None))
        self.assert_price(0, none, {"a": 4, "b": 0})
        self.assert_price(None, none, {"a": 4, "b": 1})

    def test_names_that_are_not_in_the_system(self):
        prices = Prices(raising=3).with_price("c", None).with_price("aa", 999)
        task = Task(PAIR, {"a": 0, "b": 0}, prices)
        self.assert_price(3, task, {"a": 1, "b": 0})
        self.assertIs(is_solution(task, {"a": 0, "b": 3}), True)
        self.assert_same(task.prices.single, {"aa": 999, "c": None})

    def test_numbers_at_both_ends_of_the_range(self):
        task = Task(PAIR, {"a": -99999, "b": 99999}, Prices(raising=999, lowering=998))
        self.assert_price(199998 * 999, task, {"a": 99999, "b": 99999})
        self.assert_price(199998 * 998, task, {"a": -99999, "b": -99999})

    def test_small_tasks(self):
        for task in oracles.small_tasks(30, 60):
            for numbers in oracles.box(task.system, 2):
                wanted = oracles.price(task, numbers)
                self.assert_price(wanted, task, numbers)
                solved = wanted is not None and oracles.admitted(task.system, numbers)
                self.assertIs(is_solution(task, numbers), solved)

    def test_wrong_numbers(self):
        task = Task(PAIR, {"a": 0, "b": 1}, Prices().with_price("a", None))
        for thing in [*objects(), [0, 1], {"a": False, "b": 1}, {"a": 0, "b": True}]:
            self.assert_raises_exactly(InvalidNumbers, price_of, task, thing)
            self.assert_raises_exactly(InvalidNumbers, is_solution, task, thing)


class IsSolutionTest(Case):
    def test_rules_and_fixed_settings(self):
        task = Task(PAIR, {"a": 0, "b": 1}, Prices().with_price("a", None))
        for a, b, wanted in ((0, 3, True), (0, 9, True), (0, 2, False), (0, 1, False), (-1, 3, False), (1, 2, False)):
            self.assertIs(is_solution(task, {"a": a, "b": b}), wanted)

    def test_rules_of_the_ground(self):
        task = Task(System(["a"], [(None, "a", 2), ("a", None, -3)]), {"a": 0}, Prices())
        self.assert_same([is_solution(task, {"a": a}) for a in range(5)], [False, False, True, True, False])

    def test_with_a_contradiction_there_is_none(self):
        task = Task(System(["a"], [(None, "a", 2), ("a", None, -1)]), {"a": 0}, Prices())
        self.assert_same([is_solution(task, {"a": a}) for a in range(4)], [False] * 4)

    def test_what_a_dict_puts_first_means_nothing(self):
        task = Task(PAIR, {"b": 1, "a": 0}, Prices())
        self.assertIs(is_solution(task, {"b": 3, "a": 0}), True)


if __name__ == "__main__":
    unittest.main()
