"""Systems: promises 2, 3 and 10."""

import unittest

from tests.support import Case, nested, objects
from windowsteps.errors import InvalidSystem, UnknownRule
from windowsteps.systems import System

RULES = [
    (None, "a", 0), ("b", None, -5), ("a", "b", 2), ("a", None, 999), (None, "b", -999),
    ("a", "b", -10), ("b", "a", 0), ("a", "b", -9), ("a", "b", 10), (None, "a", -1),
]
ASCENDING = [
    (None, "a", -1), (None, "a", 0), (None, "b", -999),
    ("a", None, 999), ("a", "b", -10), ("a", "b", -9), ("a", "b", 2), ("a", "b", 10),
    ("b", None, -5), ("b", "a", 0),
]


class ExamplesTest(Case):
    def test_document(self):
        self.assert_examples("""
>>> from windowsteps.systems import System
>>> system = System(['b', 'a'], [('a', 'b', 2), (None, 'a', 0), ('a', 'b', 2)])
>>> [system.names, system.rules]
[['a', 'b'], [(None, 'a', 0), ('a', 'b', 2)]]
>>> System(['a'], [('a', 'a', 0)])
raises InvalidSystem
""")


class CreationTest(Case):
    def test_nothing_at_all(self):
        system = System([], [])
        self.assert_same([system.names, system.rules], [[], []])

    def test_names_are_ascending(self):
        self.assertEqual(System(["c", "ab", "b", "a", "aa"], []).names, ["a", "aa", "ab", "b", "c"])

    def test_names_of_one_and_of_eight_letters(self):
        names = ["a", "abcdefgh", "z", "zzzzzzzz"]
        self.assertEqual(System(names, []).names, names)

    def test_rules_are_ascending_with_the_ground_first(self):
        self.assertEqual(System(["a", "b"], RULES).rules, ASCENDING)
        self.assertEqual(System(["a", "b"], RULES[::-1]).rules, ASCENDING)

    def test_equal_rules_are_kept_once(self):
        system = System(["a", "b"], [("a", "b", 2), ("a", "b", 3), ("a", "b", 2), ("a", "b", 2)])
        self.assertEqual(system.rules, [("a", "b", 2), ("a", "b", 3)])

    def test_rules_that_contradict_each_other_are_allowed(self):
        rules = [("a", "b", 999), ("b", "a", 999)]
        self.assertEqual(System(["a", "b"], rules).rules, rules)

    def test_more_than_the_usual_number_is_no_error(self):
        names = [first + second for first in "abcde" for second in "abcde"]
        rules = [("aa", "ee", gap) for gap in range(-60, 60)]
        system = System(names, rules)
        self.assertEqual([len(system.names), len(system.rules)], [25, 120])

    def test_parameters_by_name(self):
        system = System(rules=[("a", "b", 1)], names=["b", "a"])
        self.assertEqual([system.names, system.rules], [["a", "b"], [("a", "b", 1)]])

    def test_arguments_are_copied(self):
        names, rules = ["b", "a"], [("b", "a", 2), ("a", "b", 1)]
        system = System(names, rules)
        self.assertEqual([names, rules], [["b", "a"], [("b", "a", 2), ("a", "b", 1)]])
        names.append("c")
        rules.clear()
        self.assertEqual([system.names, system.rules], [["a", "b"], [("a", "b", 1), ("b", "a", 2)]])

    def test_ascending_arguments_are_copied_too(self):
        names, rules = ["a", "b"], [("a", "b", 1), ("b", "a", 2)]
        system = System(names, rules)
        names.clear()
        rules.clear()
        self.assertEqual([system.names, system.rules], [["a", "b"], [("a", "b", 1), ("b", "a", 2)]])

    def test_returned_lists_are_new(self):
        system = System(["a", "b"], [("a", "b", 1)])
        system.names.append("c")
        system.rules.clear()
        self.assertEqual([system.names, system.rules], [["a", "b"], [("a", "b", 1)]])
        self.assertIsNot(system.names, system.names)
        self.assertIsNot(system.rules, system.rules)


class InvalidSystemTest(Case):
    def test_names_that_are_no_list_of_different_names(self):
        for names in objects():
            if names != []:
                self.assert_raises_exactly(InvalidSystem, System, names, [])

    def test_names_in_other_containers(self):
        for names in ((), ("a", "b"), "ab", {"a": 0}, {}, System(["a"], [])):
            self.assert_raises_exactly(InvalidSystem, System, names, [])

    def test_one_wrong_name_among_names(self):
        texts = ["", "abcdefghi", "A", "aB", "a1", "a_b", "a-b", "a b", " a", "a\n", "\n", "\t", "`", "{"]
        for name in [*texts, None, True, 0, ["a"], ("a",), {"a": 0}]:
            self.assert_raises_exactly(InvalidSystem, System, ["a", name], [])
            self.assert_raises_exactly(InvalidSystem, System, [name, "a"], [])

    def test_equal_names(self):
        self.assert_raises_exactly(InvalidSystem, System, ["a", "b", "a"], [])
        self.assert_raises_exactly(InvalidSystem, System, ["a", "a"], [("a", None, 1)])

    def test_rules_that_are_no_list_of_rules(self):
        for rules in objects():
            if rules != []:
                self.assert_raises_exactly(InvalidSystem, System, ["c", "d"], rules)

    def test_rules_in_other_containers(self):
        for rules in ((), (("a", "b", 1),), {("a", "b", 1): 0}, {}, "ab", None):
            self.assert_raises_exactly(InvalidSystem, System, ["a", "b"], rules)

    def test_one_wrong_rule_among_rules(self):
        for rule in objects():
            self.assert_raises_exactly(InvalidSystem, System, ["a", "b"], [("a", "b", 0), rule])
            self.assert_raises_exactly(InvalidSystem, System, ["a", "b"], [rule, ("a", "b", 0)])

    def test_rules_of_settings_that_there_are_not(self):
        for rule in (("a", "c", 0), ("c", "a", 0), ("c", None, 0), (None, "c", 0), ("c", "d", 0)):
            self.assert_raises_exactly(InvalidSystem, System, ["a", "b"], [rule])
        self.assert_raises_exactly(InvalidSystem, System, [], [(None, "a", 0)])

    def test_both_arguments_wrong(self):
        for thing in (None, True, "a", nested(20), {}, 10 ** 39):
            self.assert_raises_exactly(InvalidSystem, System, thing, thing)


class WithRulesTest(Case):
    def setUp(self):
        self.system = System(["a", "b"], [("a", "b", 1)])

    def assert_unchanged(self):
        self.assertEqual([self.system.names, self.system.rules], [["a", "b"], [("a", "b", 1)]])

    def test_further_rules(self):
        more = self.system.with_rules(("b", None, -3), (None, "a", 0))
        self.assertIsInstance(more, System)
        self.assertEqual(more.names, ["a", "b"])
        self.assertEqual(more.rules, [(None, "a", 0), ("a", "b", 1), ("b", None, -3)])
        self.assert_unchanged()

    def test_rules_that_it_has(self):
        more = self.system.with_rules(("a", "b", 1), ("a", "b", 2), ("a", "b", 2))
        self.assertEqual(more.rules, [("a", "b", 1), ("a", "b", 2)])

    def test_no_rules(self):
        self.assertTrue(self.system.with_rules() == self.system)

    def test_any_objects(self):
        for rule in objects():
            self.assert_raises_exactly(InvalidSystem, self.system.with_rules, rule)
            self.assert_raises_exactly(InvalidSystem, self.system.with_rules, ("b", "a", 0), rule)
            self.assert_unchanged()

    def test_rules_of_settings_that_there_are_not(self):
        for rule in (("a", "c", 0), ("c", None, 0), ("c", "d", 0)):
            self.assert_raises_exactly(InvalidSystem, self.system.with_rules, rule)

    def test_a_list_of_rules_is_no_rule(self):
        self.assert_raises_exactly(InvalidSystem, self.system.with_rules, [("a", "b", 2)])
        self.assert_raises_exactly(InvalidSystem, self.system.with_rules, [])


class WithoutTest(Case):
    def setUp(self):
        self.system = System(["a", "b"], [("a", "b", 1), ("a", "b", 1), ("a", "b", 2), (None, "b", 1)])

    def assert_unchanged(self):
        self.assertEqual(self.system.names, ["a", "b"])
        self.assertEqual(self.system.rules, [(None, "b", 1), ("a", "b", 1), ("a", "b", 2)])

    def test_a_rule_is_gone(self):
        less = self.system.without(("a", "b", 1))
        self.assertIsInstance(less, System)
        self.assertEqual([less.names, less.rules], [["a", "b"], [(None, "b", 1), ("a", "b", 2)]])
        self.assertEqual(self.system.without(rule=(None, "b", 1)).rules, [("a", "b", 1), ("a", "b", 2)])
        self.assert_unchanged()

    def test_the_last_rule(self):
        less = System(["a"], [("a", None, 0)]).without(("a", None, 0))
        self.assertEqual([less.names, less.rules], [["a"], []])

    def test_rules_that_it_does_not_have(self):
        for rule in (("a", "b", 0), ("b", "a", 1), ("b", None, 1), (None, "a", 1), ("a", "c", 1)):
            self.assert_raises_exactly(UnknownRule, self.system.without, rule)
        self.assert_raises_exactly(UnknownRule, self.system.without(("a", "b", 1)).without, ("a", "b", 1))

    def test_any_objects(self):
        for rule in objects():
            self.assert_raises_exactly(UnknownRule, self.system.without, rule)
            self.assert_unchanged()

    def test_true_is_no_gap_and_a_list_is_no_rule(self):
        for rule in (("a", "b", True), ["a", "b", 1], [("a", "b", 1)]):
            self.assert_raises_exactly(UnknownRule, self.system.without, rule)
        zero = System(["a", "b"], [("a", "b", 0)])
        self.assert_raises_exactly(UnknownRule, zero.without, ("a", "b", False))


class EqualityTest(Case):
    def test_equal_systems(self):
        one = System(["a", "b"], [("a", "b", 1), (None, "a", 0)])
        two = System(["b", "a"], [(None, "a", 0), ("a", "b", 1), ("a", "b", 1)])
        self.assertIs(one == two, True)
        self.assertIs(one != two, False)
        self.assertIs(System([], []) == System([], []), True)
        self.assertIs(one == one, True)

    def test_other_names_or_rules(self):
        one = System(["a", "b"], [("a", "b", 1)])
        others = [
            System(["a", "b"], []), System(["a", "b"], [("a", "b", 2)]), System(["a", "b", "c"], [("a", "b", 1)]),
            System(["a", "b"], [("b", "a", 1)]), System(["a", "b"], [("a", "b", 1), (None, "a", 0)]),
        ]
        for two in others:
            self.assertIs(one == two, False)
            self.assertIs(two == one, False)
            self.assertIs(one != two, True)
        self.assertIs(System(["a"], []) == System(["b"], []), False)

    def test_any_objects(self):
        one = System(["a"], [(None, "a", 0)])
        for other in [*objects(), ["a"], (["a"], [(None, "a", 0)]), "System"]:
            self.assertIs(one == other, False)
            self.assertIs(other == one, False)


class IsRuleTest(Case):
    def test_rules_of_any_names(self):
        rules = [
            ("a", "b", 0), (None, "a", 0), ("a", None, 0), ("abcdefgh", "z", 999), ("a", "b", -999), ("zz", "y", 1),
        ]
        for rule in rules:
            self.assertIs(System.is_rule(rule), True)

    def test_any_objects(self):
        for thing in objects():
            self.assertIs(System.is_rule(thing), False)

    def test_wrong_rules(self):
        wrong = [
            ("a", "b", 1000), ("a", "b", -1000), ("a", "b", True), ("a", "b", False), ("a", "b", None), ("a", "b", "0"),
            ("a", "a", 0), (None, None, 0), ("", "b", 0), ("a", "abcdefghi", 0), ("A", "b", 0), ("a", "b\n", 0),
            ("a", "b"), ("a", "b", 0, 0), ["a", "b", 0], (0, "b", 0), ("a", False, 0), (["a"], ["b"], 0),
        ]
        for thing in wrong:
            self.assertIs(System.is_rule(thing), False)

    def test_off_a_system_and_by_name(self):
        self.assertIs(System([], []).is_rule(("a", "b", 0)), True)
        self.assertIs(System.is_rule(thing=("a", "b", 0)), True)


if __name__ == "__main__":
    unittest.main()
