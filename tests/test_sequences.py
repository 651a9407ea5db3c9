"""Sequences: promises 7, 9 and 16."""

import random
import unittest

from tests import oracles
from tests.support import Case, mangled, objects
from windowsteps.blocks import blocks
from windowsteps.errors import InvalidNumbers, NotAdmitted
from windowsteps.sequences import is_sequence, least_steps, moments, sequence
from windowsteps.systems import System

CLOSE = System(["a", "b"], [("a", "b", 0), ("b", "a", -1)])
TIED = System(["a", "b", "c"], [("a", "b", 2), ("b", "a", -2), ("b", "c", 0)])
WRONG = System(["a", "b"], [("a", "b", 1), ("b", "a", 0)])


def walk_of(system, old, new):
    return list(moments(system, old, new))


def steps_towards(system, old, new):
    return oracles.steps_towards(system, oracles.blocks_and_grounded(system)[0], old, new)


CALLS = [least_steps, sequence, walk_of, lambda system, old, new: is_sequence(system, old, new, [])]


class SequenceCase(Case):
    def assert_sequence(self, system, old, new, wanted):
        before = repr([old, new])
        self.assert_same(sequence(system, old, new), wanted)
        self.assert_same(least_steps(system, old, new), len(wanted))
        self.assertIs(is_sequence(system, old, new, wanted), True)
        self.assert_moments(system, old, new, wanted)
        self.assertEqual(repr([old, new]), before)

    def assert_moments(self, system, old, new, steps):
        groups = {block[0]: block for block in oracles.blocks_and_grounded(system)[0]}
        numbers = {name: old[name] for name in system.names}
        wanted = []
        for name, change in steps:
            numbers = {each: numbers[each] + change * (each in groups[name]) for each in numbers}
            wanted.append(numbers)
        self.assert_same(walk_of(system, old, new), wanted)

    def assert_not_admitted(self, rule, system, old, new):
        for call in CALLS:
            self.assert_raises_exactly(NotAdmitted, call, system, old, new)
            with self.assertRaises(NotAdmitted) as caught:
                call(system, old, new)
            self.assert_same(caught.exception.rule, rule)


class ExamplesTest(Case):
    def test_document(self):
        self.assert_examples("""
>>> from windowsteps.sequences import least_steps, sequence
>>> from windowsteps.systems import System
>>> system = System(['a', 'b'], [('a', 'b', 0), ('b', 'a', -1)])
>>> sequence(system, {'a': 0, 'b': 0}, {'a': 1, 'b': 2})
[('b', 1), ('a', 1), ('b', 1)]
>>> least_steps(system, {'a': 0, 'b': 0}, {'a': -2, 'b': -2})
4
""")


class SequenceTest(SequenceCase):
    def test_no_settings_and_no_rules(self):
        self.assert_sequence(System([], []), {}, {}, [])
        free = System(["b", "a"], [])
        self.assert_sequence(free, {"a": 0, "b": 0}, {"a": -1, "b": 2}, [("a", -1), ("b", 1), ("b", 1)])

    def test_equal_old_and_new_numbers(self):
        self.assert_sequence(CLOSE, {"a": 5, "b": 6}, {"b": 6, "a": 5}, [])
        self.assert_sequence(TIED, {"a": 0, "b": 2, "c": 2}, {"a": 0, "b": 2, "c": 2}, [])

    def test_the_first_safe_step_towards_the_new_numbers(self):
        down = [("a", -1), ("b", -1), ("a", -1), ("b", -1)]
        self.assert_sequence(CLOSE, {"a": 0, "b": 0}, {"a": -2, "b": -2}, down)
        self.assert_sequence(CLOSE, {"a": 0, "b": 1}, {"a": 2, "b": 2}, [("a", 1), ("b", 1), ("a", 1)])

    def test_a_block_moves_by_its_name(self):
        steps = [("c", 1), ("a", 1), ("c", 1), ("a", 1)]
        self.assert_sequence(TIED, {"a": 0, "b": 2, "c": 2}, {"a": 2, "b": 4, "c": 4}, steps)
        steps = [("a", -1), ("a", -1), ("c", 1)]
        self.assert_sequence(TIED, {"a": 0, "b": 2, "c": 2}, {"a": -2, "b": 0, "c": 3}, steps)

    def test_rules_of_the_ground_and_grounded_settings(self):
        rules = [(None, "a", 3), ("a", None, -3), ("a", "b", 1), ("b", "c", 0), ("c", None, -6)]
        system = System(["a", "b", "c"], rules)
        old, new = {"a": 3, "b": 4, "c": 4}, {"a": 3, "b": 6, "c": 6}
        self.assert_sequence(system, old, new, [("c", 1), ("b", 1), ("c", 1), ("b", 1)])
        self.assert_sequence(system, new, old, [("b", -1), ("b", -1), ("c", -1), ("c", -1)])

    def test_settings_that_move_in_opposite_directions(self):
        system = System(["a", "b"], [("a", "b", -3)])
        steps = [("a", 1), ("a", 1), ("b", -1), ("b", -1)]
        self.assert_sequence(system, {"a": 0, "b": 1}, {"a": 2, "b": -1}, steps)

    def test_numbers_at_both_ends_of_the_range(self):
        system = System(["a", "b"], [("a", "b", -999)])
        self.assert_sequence(system, {"a": 99998, "b": 99999}, {"a": 99999, "b": 99998}, [("a", 1), ("b", -1)])
        self.assert_sequence(system, {"a": -99999, "b": -99998}, {"a": -99998, "b": -99999}, [("a", 1), ("b", -1)])
        old, new = {"a": -99999, "b": 99999}, {"a": 99999, "b": 99999}
        self.assert_same(self.assert_quick(least_steps, system, old, new), 199998)
        self.assert_same(self.assert_quick(least_steps, system, new, old), 199998)

    def test_small_systems_by_a_search_over_all_steps(self):
        compared = 0
        for system in oracles.bounded_systems(20, 60, rules=6, bound=2):
            found = oracles.admitted_in_box(system, 2)
            for old in found[::7]:
                many = oracles.least_numbers_of_steps(system, old, 2)
                for new in found[::5]:
                    self.assert_same(least_steps(system, old, new), many[tuple(new.values())])
                    self.assert_sequence(system, old, new, steps_towards(system, old, new))
                    compared += 1
        self.assertGreater(compared, 300)

    def test_small_systems_with_numbers_apart(self):
        for at, system in enumerate(oracles.small_systems(21, 150, gap=2)):
            found = [] if oracles.has_contradiction(system) else oracles.admitted_in_box(system, 3)
            for old, new in zip(*[random.Random(at).sample(found, min(5, len(found))) for _ in range(2)]):
                self.assert_sequence(system, old, new, steps_towards(system, old, new))

    def test_a_thousand_steps(self):
        names = list("abcdefghijklmnopqrst")
        rules = [(low, high, gap) for low, high in zip(names, names[1:]) for gap in (0, -1, -2, -3)]
        system = System(names, [*rules, *[(high, low, -5) for low, high in zip(names, names[1:])], ("a", None, -100)])
        old, new = {name: 0 for name in names}, {name: 50 for name in names}
        for one, two in ((old, new), (new, old)):
            steps = self.assert_quick(sequence, system, one, two, seconds=3)
            self.assert_same(len(steps), 1000)
            self.assert_same(self.assert_quick(least_steps, system, one, two), 1000)
            self.assertIs(self.assert_quick(is_sequence, system, one, two, steps, seconds=3), True)
            self.assertIs(self.assert_quick(is_sequence, system, one, two, steps[:-1], seconds=3), False)
            self.assert_same(self.assert_quick(walk_of, system, one, two, seconds=3)[-1], two)

    def test_large_systems(self):
        system, numbers = oracles.far_system(22, rules=60)
        for change in (3, -40):
            far = {name: number + change for name, number in numbers.items()}
            free = System(system.names, [rule for rule in system.rules if None not in rule])
            steps = self.assert_quick(sequence, free, numbers, far, seconds=3)
            self.assert_same(steps, oracles.steps_towards(free, blocks(free), numbers, far))
            self.assert_same(self.assert_quick(least_steps, free, numbers, far), len(steps))

    def test_results_are_new(self):
        old, new = {"a": 0, "b": 0}, {"a": 1, "b": 1}
        sequence(CLOSE, old, new).clear()
        self.assert_sequence(CLOSE, old, new, [("b", 1), ("a", 1)])

    def test_parameters_by_name(self):
        old, new = {"a": 0, "b": 0}, {"a": 1, "b": 1}
        self.assert_same(sequence(new=new, old=old, system=CLOSE), [("b", 1), ("a", 1)])
        self.assert_same(least_steps(new=new, old=old, system=CLOSE), 2)
        self.assertIs(is_sequence(thing=[("b", 1), ("a", 1)], new=new, old=old, system=CLOSE), True)
        self.assert_same(list(moments(new=new, old=old, system=CLOSE)), [{"a": 0, "b": 1}, {"a": 1, "b": 1}])


class IsSequenceTest(SequenceCase):
    OLD, NEW = {"a": 0, "b": 0}, {"a": 1, "b": 2}

    def assert_is(self, wanted, system, old, new, thing):
        before = repr([old, new, thing])
        self.assertIs(is_sequence(system, old, new, thing), wanted, before)
        self.assertEqual(repr([old, new, thing]), before)

    def test_detours_are_allowed(self):
        steps = [("b", 1), ("a", 1), ("b", 1)]
        self.assert_is(True, CLOSE, self.OLD, self.NEW, [("a", -1), ("a", 1), *steps])
        self.assert_is(True, CLOSE, self.OLD, self.NEW, [*steps, ("a", 1), ("a", -1)])
        self.assert_is(True, CLOSE, self.OLD, self.NEW, [*steps, ("b", -1), ("b", 1)])
        self.assert_is(True, CLOSE, self.OLD, self.OLD, [("b", 1), ("b", -1)])
        self.assert_is(True, CLOSE, self.OLD, self.OLD, [("b", 1), ("b", -1)] * 500)

    def test_another_order(self):
        system = System(["a", "b"], [])
        for steps in ([("a", 1), ("b", 1), ("b", 1)], [("b", 1), ("a", 1), ("b", 1)], [("b", 1), ("b", 1), ("a", 1)]):
            self.assert_is(True, system, self.OLD, self.NEW, steps)

    def test_numbers_on_the_way_that_are_not_admitted(self):
        self.assert_is(False, CLOSE, self.OLD, self.NEW, [("a", 1), ("b", 1), ("b", 1)])
        self.assert_is(False, CLOSE, self.OLD, self.NEW, [("b", 1), ("b", 1), ("a", 1)])
        self.assert_is(False, CLOSE, self.OLD, self.OLD, [("a", 1), ("a", -1)])

    def test_other_ends(self):
        steps = [("b", 1), ("a", 1), ("b", 1)]
        for thing in ([], steps[:2], steps[:1], [*steps, ("a", 1)], steps * 2):
            self.assert_is(False, CLOSE, self.OLD, self.NEW, thing)
        self.assert_is(False, CLOSE, self.NEW, self.OLD, steps)
        self.assert_is(True, CLOSE, self.OLD, self.OLD, [])

    def test_names_that_are_not_of_a_block(self):
        old, new = {"a": 0, "b": 2, "c": 5}, {"a": 1, "b": 3, "c": 5}
        self.assert_is(True, TIED, old, new, [("a", 1)])
        for step in (("b", 1), ("c", 1), ("a", -1), ("a", True), ("a", 2), ["a", 1], ("a", 1, 0), ("d", 1), (None, 1)):
            self.assert_is(False, TIED, old, new, [step])
        self.assert_is(False, TIED, old, new, [("a", 1), ("b", 0)])
        fixed = System(["a", "b"], [(None, "a", 1), ("a", None, -1)])
        self.assert_is(False, fixed, {"a": 1, "b": 0}, {"a": 1, "b": 0}, [("a", 1), ("a", -1)])

    def test_any_objects(self):
        for thing in [*objects(), CLOSE]:
            self.assert_is(False, CLOSE, self.OLD, self.NEW, thing)
            self.assert_is(False, CLOSE, self.OLD, self.NEW, [("b", 1), ("a", 1), thing, ("b", 1)])
            self.assert_is(thing == [], CLOSE, self.OLD, self.OLD, thing)

    def test_results_that_were_changed(self):
        ends = [(CLOSE, self.OLD, self.NEW), (TIED, {"a": 0, "b": 2, "c": 2}, {"a": 1, "b": 3, "c": 4})]
        for system, old, new in ends:
            for thing in mangled(sequence(system, old, new)):
                self.assert_is(oracles.leads_to(system, old, new, thing), system, old, new, thing)

    def test_other_containers(self):
        steps = [("b", 1), ("a", 1), ("b", 1)]
        lists = [list(step) for step in steps]
        for thing in (tuple(steps), lists, {0: steps}, dict(enumerate(steps)), [steps], repr(steps)):
            self.assert_is(False, CLOSE, self.OLD, self.NEW, thing)


class MomentsTest(SequenceCase):
    OLD, NEW = {"a": 0, "b": 0}, {"b": 2, "a": 1}
    WANTED = [{"a": 0, "b": 1}, {"a": 1, "b": 1}, {"a": 1, "b": 2}]

    def test_keys_come_in_ascending_order(self):
        self.assert_same(walk_of(CLOSE, {"b": 0, "a": 0}, self.NEW), self.WANTED)

    def test_what_is_yielded_is_new(self):
        old, new = dict(self.OLD), dict(self.NEW)
        seen = []
        for numbers in moments(CLOSE, old, new):
            seen.append(dict(numbers))
            numbers.clear()
        self.assert_same(seen, self.WANTED)
        self.assert_same([old, new], [self.OLD, self.NEW])
        kept = walk_of(CLOSE, old, new)
        self.assertEqual(len({id(numbers) for numbers in kept}), 3)

    def test_it_is_a_generator_that_can_be_walked_twice(self):
        walk = moments(CLOSE, self.OLD, self.NEW)
        self.assertIs(iter(walk), walk)
        self.assert_same(next(walk), self.WANTED[0])
        self.assert_same(walk_of(CLOSE, self.OLD, self.NEW), self.WANTED)
        self.assert_same(list(walk), self.WANTED[1:])
        self.assert_same(list(walk), [])
        self.assert_same(walk_of(CLOSE, self.OLD, self.NEW), self.WANTED)

    def test_a_walk_within_another_walk(self):
        pairs = []
        for one in moments(CLOSE, self.OLD, self.NEW):
            for two in moments(CLOSE, self.OLD, self.NEW):
                pairs.append([one, two])
        self.assert_same(pairs, [[one, two] for one in self.WANTED for two in self.WANTED])

    def test_errors_come_when_it_is_iterated(self):
        for old, new, kind in ((None, self.NEW, InvalidNumbers), ({"a": 1, "b": 0}, self.NEW, NotAdmitted)):
            walk = moments(CLOSE, old, new)
            self.assert_raises_exactly(kind, next, walk)


class ErrorsTest(SequenceCase):
    def test_any_objects(self):
        good = {"a": 0, "b": 0}
        for thing in [*objects(), [0, 0], {"a": 0, "b": False}]:
            for call in CALLS:
                self.assert_raises_exactly(InvalidNumbers, call, CLOSE, thing, good)
                self.assert_raises_exactly(InvalidNumbers, call, CLOSE, good, thing)
                self.assert_raises_exactly(InvalidNumbers, call, CLOSE, thing, thing)

    def test_the_first_breach_of_the_old_numbers(self):
        system = System(["a", "b"], [("b", None, -5), ("a", "b", 2), (None, "a", 0), ("a", "b", 1)])
        good = {"a": 0, "b": 3}
        self.assert_not_admitted((None, "a", 0), system, {"a": -1, "b": 6}, good)
        self.assert_not_admitted(("a", "b", 1), system, {"a": 4, "b": 4}, good)
        self.assert_not_admitted(("a", "b", 2), system, {"a": 4, "b": 5}, good)
        self.assert_not_admitted(("b", None, -5), system, {"a": 4, "b": 6}, good)

    def test_the_first_breach_of_the_new_numbers(self):
        system = System(["a", "b"], [("b", None, -5), ("a", "b", 2), (None, "a", 0), ("a", "b", 1)])
        good = {"a": 0, "b": 3}
        self.assert_not_admitted((None, "a", 0), system, good, {"a": -1, "b": 6})
        self.assert_not_admitted(("a", "b", 1), system, good, {"a": 4, "b": 4})
        self.assert_not_admitted(("b", None, -5), system, good, {"a": 4, "b": 6})

    def test_the_old_numbers_come_first(self):
        system = System(["a", "b"], [(None, "a", 0), ("a", "b", 2)])
        self.assert_not_admitted(("a", "b", 2), system, {"a": 0, "b": 1}, {"a": -1, "b": 5})
        self.assert_not_admitted((None, "a", 0), system, {"a": -1, "b": 1}, {"a": 0, "b": 1})

    def test_invalid_numbers_come_before_all(self):
        for thing in (None, {"a": 0}, {"a": 0, "b": True}, {"a": 0, "b": 100000}):
            for call in CALLS:
                self.assert_raises_exactly(InvalidNumbers, call, CLOSE, {"a": 9, "b": 0}, thing)
                self.assert_raises_exactly(InvalidNumbers, call, CLOSE, thing, {"a": 9, "b": 0})
                self.assert_raises_exactly(InvalidNumbers, call, WRONG, {"a": 0, "b": 0}, thing)

    def test_with_a_contradiction_no_numbers_are_admitted(self):
        self.assert_not_admitted(("a", "b", 1), WRONG, {"a": 0, "b": 0}, {"a": 0, "b": 1})
        self.assert_not_admitted(("b", "a", 0), WRONG, {"a": 0, "b": 1}, {"a": 0, "b": 0})

    def test_errors_come_before_what_is_no_sequence(self):
        for thing in (None, True, [("x", 1)], {}):
            self.assert_raises_exactly(InvalidNumbers, is_sequence, CLOSE, {"a": 0}, {"a": 0, "b": 0}, thing)
            self.assert_raises_exactly(NotAdmitted, is_sequence, CLOSE, {"a": 9, "b": 0}, {"a": 0, "b": 0}, thing)
            self.assert_raises_exactly(NotAdmitted, is_sequence, CLOSE, {"a": 0, "b": 0}, {"a": 9, "b": 0}, thing)


if __name__ == "__main__":
    unittest.main()
