"""Numbers and their shortfalls: promises 2, 3, 4 and 11."""

import unittest

from tests.support import Case, objects
from windowsteps.errors import InvalidNumbers, UnknownRule
from windowsteps.figures import first_breach, greater, is_admitted, shortfall, smaller
from windowsteps.systems import System

PAIR = System(["a", "b"], [("a", "b", 1), (None, "a", 0), ("b", None, -5)])


class ExamplesTest(Case):
    def test_document(self):
        self.assert_examples("""
>>> from windowsteps.figures import first_breach, shortfall, smaller
>>> from windowsteps.systems import System
>>> system = System(['a', 'b'], [('a', 'b', 2), ('b', None, -5)])
>>> [shortfall(system, {'a': 1, 'b': 4}, ('a', 'b', 2)), first_breach(system, {'a': 1, 'b': 6})]
[-1, ('b', None, -5)]
>>> smaller(system, {'a': 1, 'b': 4}, {'a': 0, 'b': 5})
{'a': 0, 'b': 4}
""")


class InvalidNumbersTest(Case):
    def assert_invalid(self, system, thing, good):
        rule = system.rules[0]
        self.assert_raises_exactly(InvalidNumbers, shortfall, system, thing, rule)
        self.assert_raises_exactly(InvalidNumbers, first_breach, system, thing)
        self.assert_raises_exactly(InvalidNumbers, is_admitted, system, thing)
        for combine in (smaller, greater):
            self.assert_raises_exactly(InvalidNumbers, combine, system, thing, good)
            self.assert_raises_exactly(InvalidNumbers, combine, system, good, thing)
            self.assert_raises_exactly(InvalidNumbers, combine, system, thing, thing)

    def test_any_objects(self):
        for thing in objects():
            self.assert_invalid(PAIR, thing, {"a": 0, "b": 1})
        self.assertEqual(PAIR.rules, [(None, "a", 0), ("a", "b", 1), ("b", None, -5)])

    def test_names_that_are_missing_or_too_many(self):
        for thing in ({"a": 0}, {"b": 0}, {"a": 0, "c": 0}, {"a": 0, "b": 0, "c": 0}, {"a": 0, 1: 0}):
            self.assert_invalid(PAIR, thing, {"a": 0, "b": 1})

    def test_one_wrong_number(self):
        for number in (100000, -100000, 10 ** 39, True, False, None, "0", [0], (0,), {}):
            self.assert_invalid(PAIR, {"a": number, "b": 0}, {"a": 0, "b": 1})
            self.assert_invalid(PAIR, {"a": 0, "b": number}, {"a": 0, "b": 1})

    def test_pairs_are_no_dict(self):
        for thing in ([("a", 0), ("b", 0)], (("a", 0), ("b", 0)), ["a", "b"], [0, 0]):
            self.assert_invalid(PAIR, thing, {"a": 0, "b": 1})

    def test_no_settings(self):
        empty = System([], [])
        for thing in (None, [], (), "", 0, False, {"a": 0}, {0: 0}):
            self.assert_raises_exactly(InvalidNumbers, first_breach, empty, thing)
            self.assert_raises_exactly(InvalidNumbers, is_admitted, empty, thing)
            self.assert_raises_exactly(InvalidNumbers, smaller, empty, thing, {})
            self.assert_raises_exactly(InvalidNumbers, greater, empty, {}, thing)


class ShortfallTest(Case):
    def test_between_settings(self):
        for a, b, wanted in ((0, 1, 0), (0, 0, 1), (0, 2, -1), (-3, 4, -6), (7, -2, 10)):
            self.assert_same(shortfall(PAIR, {"a": a, "b": b}, ("a", "b", 1)), wanted)

    def test_the_ground_is_0(self):
        system = System(["a"], [(None, "a", 3), ("a", None, -7)])
        for a, over, under in ((3, 0, -4), (7, -4, 0), (0, 3, -7), (9, -6, 2), (-4, 7, -11)):
            self.assert_same(shortfall(system, {"a": a}, (None, "a", 3)), over)
            self.assert_same(shortfall(system, {"a": a}, ("a", None, -7)), under)

    def test_the_greatest_numbers_and_gaps(self):
        system = System(["a", "b"], [("a", "b", 999), ("a", "b", -999)])
        self.assert_same(shortfall(system, {"a": 99999, "b": -99999}, ("a", "b", 999)), 200997)
        self.assert_same(shortfall(system, {"a": -99999, "b": 99999}, ("a", "b", -999)), -200997)

    def test_each_of_several_rules_between_the_same_settings(self):
        system = System(["a", "b"], [("a", "b", 2), ("a", "b", -4), ("a", "b", 2)])
        numbers = {"a": 1, "b": 1}
        self.assert_same([shortfall(system, numbers, rule) for rule in system.rules], [-4, 2])

    def test_rules_that_are_not_of_the_system(self):
        for rule in (("a", "b", 0), ("b", "a", 1), ("a", None, 0), (None, "b", 0), ("a", "c", 1), ("c", None, 0)):
            self.assert_raises_exactly(UnknownRule, shortfall, PAIR, {"a": 0, "b": 1}, rule)

    def test_any_objects_as_the_rule(self):
        for rule in objects():
            self.assert_raises_exactly(UnknownRule, shortfall, PAIR, {"a": 0, "b": 1}, rule)

    def test_true_is_no_gap_and_a_list_is_no_rule(self):
        for rule in (("a", "b", True), (None, "a", False), ["a", "b", 1], [None, "a", 0]):
            self.assert_raises_exactly(UnknownRule, shortfall, PAIR, {"a": 0, "b": 1}, rule)

    def test_invalid_numbers_come_first(self):
        for numbers in (None, {"a": 0}, {"a": True, "b": 0}):
            self.assert_raises_exactly(InvalidNumbers, shortfall, PAIR, numbers, ("x", "y", 0))
            self.assert_raises_exactly(InvalidNumbers, shortfall, PAIR, numbers, None)

    def test_parameters_by_name(self):
        self.assertEqual(shortfall(rule=("a", "b", 1), numbers={"b": 5, "a": 0}, system=PAIR), -4)


class BreachTest(Case):
    def assert_breach(self, system, numbers, wanted):
        before = repr(numbers)
        self.assert_same(first_breach(system, numbers), wanted)
        self.assertIs(is_admitted(system, numbers), wanted is None)
        self.assertEqual(repr(numbers), before)

    def test_all_rules_hold(self):
        for a, b in ((0, 1), (0, 5), (4, 5), (2, 4)):
            self.assert_breach(PAIR, {"a": a, "b": b}, None)

    def test_one_rule_does_not_hold(self):
        self.assert_breach(PAIR, {"a": -1, "b": 0}, (None, "a", 0))
        self.assert_breach(PAIR, {"a": 3, "b": 3}, ("a", "b", 1))
        self.assert_breach(PAIR, {"a": 3, "b": 6}, ("b", None, -5))

    def test_the_first_one_in_ascending_order(self):
        rules = [
            ("b", None, 1), ("b", "a", 9), ("a", "b", 10), ("a", "b", 9), ("a", None, 1),
            (None, "b", 1), (None, "a", 1),
        ]
        ascending = [rules[6], rules[5], rules[4], rules[3], rules[2], rules[0], rules[1]]
        system = System(["a", "b"], rules)
        for first in ascending:
            self.assert_breach(system, {"a": 0, "b": 0}, first)
            system = system.without(first)
        self.assert_breach(system, {"a": 0, "b": 0}, None)

    def test_gaps_are_ordered_as_integers(self):
        system = System(["a", "b"], [("a", "b", -2), ("a", "b", -10), ("a", "b", 100), ("a", "b", 20)])
        self.assert_breach(system, {"a": 50, "b": 0}, ("a", "b", -10))
        self.assert_breach(system, {"a": 0, "b": -5}, ("a", "b", -2))
        self.assert_breach(system, {"a": 0, "b": 0}, ("a", "b", 20))
        self.assert_breach(system, {"a": 0, "b": 20}, ("a", "b", 100))
        self.assert_breach(system, {"a": 0, "b": 100}, None)

    def test_the_order_of_the_keys_means_nothing(self):
        self.assert_breach(PAIR, {"b": 1, "a": 0}, None)
        self.assert_breach(PAIR, {"b": 3, "a": 3}, ("a", "b", 1))

    def test_no_rules_and_no_settings(self):
        self.assert_breach(System([], []), {}, None)
        self.assert_breach(System(["a"], []), {"a": -99999}, None)

    def test_rules_that_contradict_each_other(self):
        system = System(["a", "b"], [("a", "b", 1), ("b", "a", 0)])
        self.assert_breach(system, {"a": 0, "b": 1}, ("b", "a", 0))
        self.assert_breach(system, {"a": 0, "b": 0}, ("a", "b", 1))

    def test_the_greatest_numbers_and_gaps(self):
        system = System(["a", "b"], [(None, "a", 999), ("b", None, 999), ("b", "a", -999)])
        self.assert_breach(system, {"a": 99999, "b": -99999}, None)
        self.assert_breach(system, {"a": 999, "b": -999}, None)
        self.assert_breach(system, {"a": 998, "b": -999}, (None, "a", 999))
        self.assert_breach(system, {"a": 999, "b": -998}, ("b", None, 999))
        self.assert_breach(system, {"a": -99999, "b": 99999}, (None, "a", 999))

    def test_parameters_by_name(self):
        self.assertEqual(first_breach(numbers={"a": -1, "b": 0}, system=PAIR), (None, "a", 0))
        self.assertIs(is_admitted(numbers={"a": 0, "b": 1}, system=PAIR), True)


class SmallerAndGreaterTest(Case):
    def test_each_setting_for_itself(self):
        system = System(["c", "a", "b"], [])
        one, two = {"a": 1, "b": -4, "c": 7}, {"a": 0, "b": 5, "c": 7}
        self.assert_same(smaller(system, one, two), {"a": 0, "b": -4, "c": 7})
        self.assert_same(smaller(system, two, one), {"a": 0, "b": -4, "c": 7})
        self.assert_same(greater(system, one, two), {"a": 1, "b": 5, "c": 7})
        self.assert_same(greater(system, two, one), {"a": 1, "b": 5, "c": 7})
        self.assert_same([one, two], [{"a": 1, "b": -4, "c": 7}, {"a": 0, "b": 5, "c": 7}])

    def test_keys_come_in_ascending_order(self):
        system = System(["c", "a", "b"], [])
        one, two = {"c": 1, "b": 2, "a": 3}, {"b": 1, "c": 2, "a": 3}
        self.assert_same(smaller(system, one, two), {"a": 3, "b": 1, "c": 1})
        self.assert_same(greater(system, one, two), {"a": 3, "b": 2, "c": 2})
        self.assert_same([one, two], [{"c": 1, "b": 2, "a": 3}, {"b": 1, "c": 2, "a": 3}])

    def test_the_greatest_numbers(self):
        system = System(["a", "b"], [])
        one, two = {"a": -99999, "b": 99999}, {"a": 99999, "b": -99999}
        self.assert_same(smaller(system, one, two), {"a": -99999, "b": -99999})
        self.assert_same(greater(system, one, two), {"a": 99999, "b": 99999})

    def test_numbers_need_not_be_admitted(self):
        self.assert_same(smaller(PAIR, {"a": 5, "b": 0}, {"a": 4, "b": 9}), {"a": 4, "b": 0})
        self.assert_same(greater(PAIR, {"a": 5, "b": 0}, {"a": 4, "b": 9}), {"a": 5, "b": 9})

    def test_admitted_ones_stay_admitted(self):
        admitted = [{"a": a, "b": b} for a in range(6) for b in range(6) if is_admitted(PAIR, {"a": a, "b": b})]
        self.assertEqual(len(admitted), 15)
        for one in admitted:
            for two in admitted:
                self.assertIs(is_admitted(PAIR, smaller(PAIR, one, two)), True)
                self.assertIs(is_admitted(PAIR, greater(PAIR, one, two)), True)

    def test_results_are_new(self):
        numbers = {"a": 1, "b": 2}
        for combine in (smaller, greater):
            combined = combine(PAIR, numbers, numbers)
            combined["a"] = 50
            self.assert_same(numbers, {"a": 1, "b": 2})
            self.assert_same(combine(PAIR, numbers, numbers), {"a": 1, "b": 2})

    def test_no_settings(self):
        self.assert_same(smaller(System([], []), {}, {}), {})
        self.assert_same(greater(System([], []), {}, {}), {})

    def test_parameters_by_name(self):
        one, two = {"a": 1, "b": 2}, {"a": 0, "b": 3}
        self.assert_same(smaller(two=two, one=one, system=PAIR), {"a": 0, "b": 2})
        self.assert_same(greater(two=two, one=one, system=PAIR), {"a": 1, "b": 3})


if __name__ == "__main__":
    unittest.main()
