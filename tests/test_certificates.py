"""Certificates: promises 8, 9 and 20."""

import itertools
import random
import unittest

from tests import oracles
from tests.support import Case, objects
from windowsteps.certificates import certificate, check_certificate, total
from windowsteps.cheapest import cheapest, least_price
from windowsteps.errors import Contradiction, InvalidAmounts, NoSolution
from windowsteps.systems import System
from windowsteps.tasks import Prices, Task

PAIR = System(["a", "b"], [("a", "b", 3)])
RING = System(["a", "b"], [("a", "b", 2), ("b", "a", -2)])
WRONG = System(["a", "b", "c"], [("a", "b", 1), ("b", "a", 0), ("b", "c", 5)])
BARS = (-10 ** 20, -1, 0, 1, 10 ** 20)


def told(task):
    prices = task.prices
    return repr([task.system.names, task.system.rules, task.numbers, prices.raising, prices.lowering, prices.single])


class CertificateCase(Case):
    def assert_total(self, wanted, task, amounts):
        before = told(task) + repr(amounts)
        self.assert_same(total(task, amounts), wanted)
        for bar in (-10 ** 20, wanted - 1, wanted, wanted + 1, 10 ** 20):
            self.assertIs(check_certificate(task, amounts, bar), bar <= wanted)
        self.assertEqual(told(task) + repr(amounts), before)

    def assert_no_amounts(self, task, thing):
        before = told(task) + repr(thing)
        self.assert_raises_exactly(InvalidAmounts, total, task, thing)
        for bar in BARS:
            self.assertIs(check_certificate(task, thing, bar), False)
        self.assertEqual(told(task) + repr(thing), before)

    def assert_certified(self, task, wanted):
        before = told(task)
        amounts = certificate(task)
        self.assertTrue(oracles.is_amounts(task, amounts), amounts)
        self.assert_same(oracles.total_of_amounts(task, amounts), wanted)
        self.assert_total(wanted, task, amounts)
        self.assertEqual(told(task), before)

    def assert_judged(self, task, thing):
        """Checks one thing against the definition of amounts."""
        if oracles.is_amounts(task, thing):
            self.assert_total(oracles.total_of_amounts(task, thing), task, thing)
        else:
            self.assert_no_amounts(task, thing)


class ExamplesTest(Case):
    def test_document(self):
        self.assert_examples("""
>>> from windowsteps.certificates import check_certificate, total
>>> from windowsteps.systems import System
>>> from windowsteps.tasks import Prices, Task
>>> task = Task(System(['a', 'b'], [('a', 'b', 3)]), {'a': 0, 'b': 1}, Prices(raising=4, lowering=2))
>>> [total(task, [2]), check_certificate(task, [2], 4), check_certificate(task, [3], 4)]
[4, True, False]
""")


class TotalTest(CertificateCase):
    def test_no_settings_and_no_rules(self):
        for task in (Task(System([], []), {}, Prices()), Task(System(["a", "b"], []), {"a": 9, "b": 0}, Prices())):
            self.assert_total(0, task, [])
            for thing in ([0], [0, 0], (), {}, None, "", [[]]):
                self.assert_no_amounts(task, thing)

    def test_bars_around_the_total(self):
        task = Task(PAIR, {"a": 0, "b": 1}, Prices(raising=4, lowering=2))
        for bar, wanted in ((-1, True), (0, True), (1, False)):
            self.assertIs(check_certificate(task, [0], bar), wanted)
        for bar, wanted in ((-5, True), (0, True), (3, True), (4, True), (5, False)):
            self.assertIs(check_certificate(task, [2], bar), wanted)

    def test_amounts_up_to_the_prices(self):
        # Amounts raise b and lower a, so that both prices bound them.
        cases = [
            (Prices(raising=4, lowering=2), 2), (Prices(raising=2, lowering=4), 2), (Prices(raising=999, lowering=1), 1),
            (Prices(raising=999, lowering=999), 999), (Prices(raising=4, lowering=2).with_price("a", 7), 4),
            (Prices(raising=4, lowering=2).with_price("b", 1), 1), (Prices(raising=4).with_price("a", None), 4),
            (Prices(raising=9, lowering=5).with_price("b", None), 5), (Prices().with_price("c", None), 1),
            (Prices(raising=3, lowering=9).with_price("b", None).with_price("b", 8), 8),
        ]
        for prices, most in cases:
            task = Task(PAIR, {"a": 0, "b": 1}, prices)
            self.assert_total(0, task, [0])
            self.assert_total(2 * most, task, [most])
            self.assert_no_amounts(task, [most + 1])
            self.assert_no_amounts(task, [-1])
            self.assert_no_amounts(task, [-most])

    def test_rules_of_the_ground(self):
        system = System(["a"], [(None, "a", 3), ("a", None, -5)])
        task = Task(system, {"a": 1}, Prices(raising=4, lowering=2))
        for amounts, wanted in (([4, 0], 8), ([0, 2], -8), ([9, 5], -2), ([5, 7], -18), ([1, 3], -10)):
            self.assert_total(wanted, task, amounts)
        for amounts in ([5, 0], [0, 3], [9, 4], [4, 7]):
            self.assert_no_amounts(task, amounts)

    def test_several_rules_add_up(self):
        system = System(["a", "b"], [("a", "b", 1), ("a", "b", 3), (None, "b", 2)])
        task = Task(system, {"a": 0, "b": 0}, Prices(raising=6, lowering=4))
        for amounts, wanted in (([1, 0, 0], 2), ([0, 1, 0], 1), ([0, 0, 1], 3), ([2, 1, 3], 14), ([2, 0, 4], 16)):
            self.assert_total(wanted, task, amounts)
        for amounts in ([0, 2, 3], [3, 1, 3], [7, 0, 0]):
            self.assert_no_amounts(task, amounts)

    def test_amounts_of_twelve_digits(self):
        many = 999999999999
        fixed = Task(PAIR, {"a": 0, "b": 1}, Prices().with_price("a", None).with_price("b", None))
        self.assert_total(2 * many, fixed, [many])
        self.assert_total(0, fixed, [0])
        for amount in (many + 1, 10 ** 13, 10 ** 39, -1):
            self.assert_no_amounts(fixed, [amount])
        ring = Task(RING, {"a": 0, "b": 7}, Prices(raising=3, lowering=2))
        self.assert_total(0, ring, [many, many])
        self.assert_total(-5 * (many - 2) + 5 * many, ring, [many - 2, many])
        self.assert_total(5 * (many - 2) - 5 * many, ring, [many, many - 2])
        self.assert_no_amounts(ring, [many - 3, many])
        self.assert_no_amounts(ring, [many + 1, many + 1])
        self.assert_no_amounts(ring, [many + 1, many])

    def test_a_contradiction_has_totals_without_an_end(self):
        task = Task(WRONG, {"a": 5, "b": 0, "c": -9}, Prices())
        self.assert_total(999999999999, task, [999999999999, 999999999999, 0])
        self.assert_total(14, task, [0, 0, 1])

    def test_too_few_and_too_many(self):
        task = Task(RING, {"a": 0, "b": 0}, Prices())
        self.assert_total(0, task, [0, 0])
        for thing in ([], [0], [0, 0, 0], [[0, 0]], (0, 0), {0: 0, 1: 0}, {"a": 0, "b": 0}, "00"):
            self.assert_no_amounts(task, thing)

    def test_true_and_false_are_not_amounts(self):
        task = Task(RING, {"a": 0, "b": 0}, Prices())
        for thing in ([True, 0], [0, True], [False, 0], [0, False], [True, True], [False, False]):
            self.assert_no_amounts(task, thing)

    def test_any_objects(self):
        pair = Task(PAIR, {"a": 0, "b": 1}, Prices())
        free = Task(System(["a"], []), {"a": 0}, Prices())
        for thing in [*objects(), pair, Prices(), [pair], ["0"], [None]]:
            for task in (pair, free):
                self.assert_judged(task, thing)
            self.assert_no_amounts(Task(RING, {"a": 0, "b": 0}, Prices()), [0, thing, 0])
        self.assert_no_amounts(pair, [0] * 5000)

    def test_all_amounts_of_small_tasks(self):
        seen = 0
        for task in oracles.small_tasks(70, 120, rules=4):
            task = Task(task.system, task.numbers, Prices(raising=2).with_price("b", None).with_price("c", 1))
            for amounts in itertools.product(range(-1, 4), repeat=len(task.system.rules)):
                self.assert_judged(task, list(amounts))
                seen += oracles.is_amounts(task, list(amounts))
        self.assertGreater(seen, 1000)

    def test_amounts_are_judged_by_what_they_hold(self):
        task = Task(PAIR, {"a": 0, "b": 1}, Prices(raising=4, lowering=2))
        amounts = [0]
        self.assert_total(0, task, amounts)
        amounts[0] = 2
        self.assert_total(4, task, amounts)
        amounts[0] = 3
        self.assert_no_amounts(task, amounts)
        amounts[0] = 1
        amounts.append(0)
        self.assert_no_amounts(task, amounts)
        amounts.pop()
        self.assert_total(2, task, amounts)

    def test_parameters_by_name(self):
        task = Task(PAIR, {"a": 0, "b": 1}, Prices(raising=4, lowering=2))
        self.assert_same(total(amounts=[2], task=task), 4)
        self.assertIs(check_certificate(bar=4, thing=[2], task=task), True)
        self.assertIs(check_certificate(bar=5, thing=[2], task=task), False)
        self.assert_same(certificate(task=task), [2])


class CertificateTest(CertificateCase):
    def test_no_settings_and_no_rules(self):
        self.assert_same(certificate(Task(System([], []), {}, Prices())), [])
        self.assert_same(certificate(Task(System(["a"], []), {"a": 99999}, Prices())), [])

    def test_small_tasks_by_all_numbers_of_a_box(self):
        certified = 0
        for task in oracles.small_tasks(71, 200):
            wanted = oracles.least_price_in_box(task, 7)
            if wanted is None:
                kind = Contradiction if oracles.has_contradiction(task.system) else NoSolution
                self.assert_raises_exactly(kind, certificate, task)
            else:
                self.assert_certified(task, wanted)
                certified += 1
        self.assertGreater(certified, 80)

    def test_no_total_is_above_the_price_of_a_solution(self):
        met = 0
        for task in oracles.small_tasks(72, 100, rules=3):
            prices = [oracles.price(task, numbers) for numbers in oracles.solutions_in_box(task, 5)]
            for amounts in itertools.product((0, 1, 2, 4, 999), repeat=len(task.system.rules)):
                if oracles.is_amounts(task, list(amounts)) and prices:
                    self.assertLessEqual(total(task, list(amounts)), min(prices))
                    met += 1
        self.assertGreater(met, 500)

    def test_all_settings_fixed(self):
        fixed = Prices().with_price("a", None).with_price("b", None)
        self.assert_certified(Task(PAIR, {"a": 0, "b": 3}, fixed), 0)
        self.assert_certified(Task(PAIR, {"a": -99999, "b": 99999}, fixed), 0)
        self.assert_raises_exactly(NoSolution, certificate, Task(PAIR, {"a": 0, "b": 2}, fixed))

    def test_old_numbers_that_are_admitted(self):
        self.assert_certified(Task(PAIR, {"a": 0, "b": 3}, Prices(raising=999)), 0)
        self.assert_certified(Task(RING, {"a": 5, "b": 7}, Prices()), 0)

    def test_mangled_certificates(self):
        for task in list(oracles.small_tasks(73, 40)):
            if least_price(task) is None:
                continue
            amounts = certificate(task)
            for at in range(len(amounts)):
                before, after = amounts[:at], amounts[at + 1:]
                self.assert_judged(task, before + after)
                self.assert_judged(task, before + [amounts[at]] * 2 + after)
                others = (None, True, False, "0", [], (), [amounts[at]], -1, 0, 1, 10 ** 12, amounts[at] + 1)
                for other in others:
                    self.assert_judged(task, [*before, other, *after])
            self.assert_judged(task, tuple(amounts))
            self.assert_judged(task, [amounts])

    def test_tasks_of_every_shape(self):
        for seed in range(40):
            chance = random.Random(seed)
            wide = chance.choice([80000, 3000, 50])
            for system in (oracles.far_system(seed, rules=40)[0], oracles.far_system(seed)[0], oracles.bipartite_system(seed)):
                numbers = {name: chance.randint(-wide, wide) for name in system.names}
                task = Task(system, numbers, oracles.any_prices(chance, system.names, fixed=0))
                amounts = self.assert_quick(certificate, task, seconds=0.5)
                self.assertIs(self.assert_quick(check_certificate, task, amounts, 0), True)
                self.assert_certified(task, oracles.price(task, cheapest(task)[1]))

    def test_some_of_the_settings_fixed(self):
        for seed in range(40):
            chance = random.Random(seed)
            system, admitted = oracles.far_system(seed, rules=chance.randint(30, 100))
            prices = oracles.any_prices(chance, system.names)
            kept = {name: admitted[name] for name in admitted if prices.single.get(name, 0) is None}
            moved = {name: admitted[name] + chance.randint(-5000, 5000) for name in admitted}
            task = Task(system, {**moved, **kept}, prices)
            self.assert_certified(task, oracles.price(task, cheapest(task)[1]))

    def test_results_are_new(self):
        task = Task(PAIR, {"a": 0, "b": 1}, Prices(raising=4, lowering=2))
        amounts = certificate(task)
        amounts[0] = 99
        amounts.clear()
        self.assert_same(certificate(task), [2])

    def test_tasks_that_share_parts(self):
        prices = Prices(raising=4, lowering=2)
        one, two = Task(PAIR, {"a": 0, "b": 1}, prices), Task(PAIR, {"a": 0, "b": 0}, prices)
        three = Task(PAIR, {"a": 0, "b": 1}, prices.with_price("a", 3))
        for _ in range(2):
            self.assert_same([certificate(one), certificate(two), certificate(three)], [[2], [2], [3]])
            self.assert_same([total(one, [2]), total(two, [2]), total(three, [3])], [4, 6, 6])

    def test_a_contradiction_comes_before_a_bind(self):
        fixed = Prices().with_price("b", None).with_price("c", None)
        self.assert_raises_exactly(Contradiction, certificate, Task(WRONG, {"a": 0, "b": 0, "c": 0}, fixed))
        self.assert_raises_exactly(Contradiction, certificate, Task(WRONG, {"a": 0, "b": 0, "c": 0}, Prices()))
        bound = Task(PAIR, {"a": 0, "b": 2}, Prices().with_price("a", None).with_price("b", None))
        self.assert_raises_exactly(NoSolution, certificate, bound)


if __name__ == "__main__":
    unittest.main()
