"""Contradictions, tightest gaps, chains and windows: promises 5, 9 and 13."""

import unittest

from tests import oracles
from tests.support import Case, mangled, objects
from windowsteps.errors import Contradiction, UnknownSetting
from windowsteps.systems import System
from windowsteps.windows import chain, contradiction, is_contradiction, tightest, window

CHAIN = System(["a", "b", "c"], [("a", "b", 2), ("b", "c", -1), (None, "a", 3), ("c", None, -9)])
RING = System(["a", "b", "c"], [("a", "b", 2), ("b", "c", -1), ("c", "a", 0), ("b", "a", -2), ("a", "b", -5)])


class WindowCase(Case):
    def assert_ring(self, system):
        """Checks that a contradiction is found, and that it is one."""
        found = contradiction(system)
        self.assertTrue(oracles.is_ring_above_0(system, found), found)
        self.assertIs(is_contradiction(system, found), True)

    def assert_gap(self, system, low, high, wanted):
        self.assert_same(tightest(system, low, high), wanted)
        found = chain(system, low, high)
        if wanted is None:
            self.assertIsNone(found)
        elif low == high:
            self.assert_same(found, [])
        else:
            self.assertTrue(oracles.is_chain(system, found, low, high), found)
            self.assertEqual(oracles.total(found), wanted)


class ExamplesTest(Case):
    def test_document(self):
        self.assert_examples("""
>>> from windowsteps.systems import System
>>> from windowsteps.windows import chain, contradiction, is_contradiction, tightest, window
>>> system = System(['a', 'b', 'c'], [('a', 'b', 2), ('b', 'c', -1), (None, 'a', 3), ('c', None, -9)])
>>> [tightest(system, 'a', 'c'), chain(system, None, 'b'), window(system, 'b')]
[1, [(None, 'a', 3), ('a', 'b', 2)], (5, 10)]
>>> more = system.with_rules(('c', 'a', 0))
>>> [contradiction(system), is_contradiction(more, [('c', 'a', 0), ('a', 'b', 2), ('b', 'c', -1)]), is_contradiction(more, contradiction(more))]
[None, True, True]
""")


class ContradictionTest(WindowCase):
    def test_no_settings_and_no_rules(self):
        self.assertIsNone(contradiction(System([], [])))
        self.assertIsNone(contradiction(System(["a", "b"], [])))

    def test_rings_with_the_totals_1_and_0_and_below_0(self):
        rings = [
            ([("a", "b", 5)], "b", "a"), ([(None, "a", -7)], "a", None), ([("a", "b", 3), ("b", None, 4)], None, "a"),
        ]
        for rules, low, high in rings:
            for total in (1, 0, -1):
                system = System(["a", "b"], [*rules, (low, high, total - oracles.total(rules))])
                if total > 0:
                    self.assert_ring(system)
                else:
                    self.assertIsNone(contradiction(system))

    def test_several_rules_with_the_same_ends(self):
        system = System(["a", "b"], [("a", "b", -3), ("a", "b", 2), ("a", "b", 1), ("b", "a", -2)])
        self.assertIsNone(contradiction(system))
        self.assert_ring(system.with_rules(("a", "b", 3)))
        self.assert_ring(system.with_rules(("b", "a", -1)))

    def test_a_contradiction_anywhere(self):
        rules = [("a", "b", 1), ("c", "d", 1), ("d", "e", 1), ("e", "c", -1), (None, "a", 4)]
        system = System(list("abcde"), rules)
        self.assert_ring(system)
        self.assertIsNone(contradiction(system.without(("e", "c", -1))))

    def test_a_ring_of_all_settings(self):
        names = list("abcdefghijklmnopqrst")
        for order in (names, names[::-1], names[::2] + names[1::2]):
            for total in (1, 0):
                rules = [(low, high, 1) for low, high in zip(order, order[1:])] + [(order[-1], order[0], total - 19)]
                if total == 1:
                    self.assert_ring(System(names, rules))
                else:
                    self.assertIsNone(contradiction(System(names, rules)))

    def test_rings_that_others_lead_to(self):
        names = list("abcdefghijklmnopqrst")
        tail = [(low, high, 999) for low, high in zip(names, names[1:])]
        self.assert_ring(System(names, [*tail, ("t", "s", -998)]))
        self.assert_ring(System(names, [*tail, ("b", "a", -998)]))
        self.assert_ring(System(names, [*tail, ("t", "s", -998), ("k", "i", -1998 + 999), ("b", None, 5)]))
        self.assertIsNone(contradiction(System(names, [*tail, ("t", "s", -999), ("b", "a", -999)])))

    def test_small_systems(self):
        seen = {True: 0, False: 0}
        for system in oracles.small_systems(2, 600):
            wanted = oracles.has_contradiction(system)
            seen[wanted] += 1
            if wanted:
                self.assert_ring(system)
            else:
                self.assertIsNone(contradiction(system))
        self.assertGreater(min(seen.values()), 100)

    def test_if_and_only_if_nothing_is_admitted(self):
        for system in oracles.bounded_systems(3, 150, rules=6):
            self.assertIs(contradiction(system) is None, bool(oracles.admitted_in_box(system, 3)))

    def test_results_are_new(self):
        found = contradiction(RING)
        wanted = list(found)
        found.clear()
        self.assert_same(contradiction(system=RING), wanted)
        self.assert_same(len(RING.rules), 5)

    def test_large_systems(self):
        system, _ = oracles.far_system(4)
        self.assertIsNone(self.assert_quick(contradiction, system))
        ladder = oracles.ladder()
        self.assertIsNone(self.assert_quick(contradiction, ladder))
        wrong = ladder.with_rules(("t", "a", 1))
        self.assertIs(is_contradiction(wrong, self.assert_quick(contradiction, wrong)), True)


class IsContradictionTest(Case):
    def assert_is(self, wanted, system, thing):
        before = repr(thing)
        self.assertIs(is_contradiction(system, thing), wanted, before)
        self.assertEqual(repr(thing), before)

    def test_a_ring_from_each_of_its_things(self):
        ring = [("a", "b", 2), ("b", "c", -1), ("c", "a", 0)]
        for at in range(3):
            self.assert_is(True, RING, ring[at:] + ring[:at])
            self.assert_is(True, RING, (ring[at:] + ring[:at]) * 500)

    def test_rings_that_pass_a_thing_twice(self):
        self.assert_is(True, RING, [("a", "b", 2), ("b", "a", -2), ("a", "b", 2), ("b", "c", -1), ("c", "a", 0)])
        self.assert_is(False, RING, [("a", "b", -5), ("b", "a", -2), ("a", "b", 2), ("b", "c", -1), ("c", "a", 0)])

    def test_rings_of_the_ground(self):
        system = System(["a"], [(None, "a", 2), ("a", None, -1), ("a", None, -2)])
        self.assert_is(True, system, [(None, "a", 2), ("a", None, -1)])
        self.assert_is(True, system, [("a", None, -1), (None, "a", 2)])
        self.assert_is(False, system, [("a", None, -2), (None, "a", 2)])

    def test_totals_that_are_not_above_0(self):
        self.assert_is(False, RING, [("a", "b", 2), ("b", "a", -2)])
        self.assert_is(False, RING, [("a", "b", -5), ("b", "c", -1), ("c", "a", 0)])

    def test_lists_that_are_no_ring(self):
        ring = [("a", "b", 2), ("b", "c", -1), ("c", "a", 0)]
        for thing in ([], ring[:1], ring[:2], ring[1:], ring[::-1], ring + ring[:1], [ring[0], ring[2], ring[1]]):
            self.assert_is(False, RING, thing)

    def test_rules_that_are_not_of_the_system(self):
        self.assert_is(False, RING, [("a", "b", 3), ("b", "a", -2)])
        self.assert_is(False, RING, [("a", "b", 2), ("b", "c", -1), ("c", "b", 5), ("b", "a", -2)])
        self.assert_is(False, System(["a", "b"], []), [("a", "b", 1), ("b", "a", 1)])

    def test_true_is_no_gap(self):
        system = System(["a", "b"], [("a", "b", 1), ("b", "a", 0)])
        self.assert_is(True, system, [("a", "b", 1), ("b", "a", 0)])
        self.assert_is(False, system, [("a", "b", True), ("b", "a", 0)])
        self.assert_is(False, system, [("a", "b", 1), ("b", "a", False)])

    def test_other_containers(self):
        ring = [("a", "b", 2), ("b", "c", -1), ("c", "a", 0)]
        others = [tuple(ring), [list(rule) for rule in ring], {0: ring}, {0: ring[0], 1: ring[1]}, [ring], (ring,)]
        for thing in [*others, repr(ring)]:
            self.assert_is(False, RING, thing)

    def test_any_objects(self):
        for thing in [*objects(), RING, RING.rules]:
            self.assert_is(False, RING, thing)
            self.assert_is(False, System([], []), thing)
            self.assert_is(False, RING, [("a", "b", 2), thing])

    def test_results_that_were_changed(self):
        for system in (RING, System(["a", "b"], [("a", "b", 1), ("b", "a", 0), (None, "a", 1), ("a", None, 0)])):
            for thing in mangled(contradiction(system)):
                self.assert_is(oracles.is_ring_above_0(system, thing), system, thing)

    def test_chains_of_small_systems(self):
        for system in oracles.small_systems(5, 100, settings=3):
            for start in oracles.things_of(system):
                for found in oracles.simple_chains(system, start):
                    self.assert_is(oracles.is_ring_above_0(system, found), system, found)

    def test_parameters_by_name(self):
        self.assertIs(is_contradiction(thing=contradiction(RING), system=RING), True)


class TightestTest(WindowCase):
    def test_chains_of_several_rules(self):
        gaps = {
            ("a", "b"): 2, ("a", "c"): 1, ("b", "c"): -1, (None, "a"): 3, (None, "b"): 5, (None, "c"): 4,
            ("a", None): -8, ("b", None): -10, ("c", None): -9, ("b", "a"): -7, ("c", "a"): -6, ("c", "b"): -4,
        }
        for (low, high), gap in gaps.items():
            self.assert_gap(CHAIN, low, high, gap)

    def test_no_chain(self):
        system = System(["a", "b", "c"], [("a", "b", 2), (None, "c", 0)])
        for low, high in (("b", "a"), ("a", "c"), ("a", None), (None, "a"), ("c", None), ("c", "a")):
            self.assert_gap(system, low, high, None)

    def test_the_same_thing_twice(self):
        ring = System(["a", "b"], [("a", "b", 2), ("b", "a", -2), (None, "a", 0), ("a", None, 0)])
        for system in (CHAIN, ring, System(["a"], [])):
            for thing in oracles.things_of(system):
                self.assert_gap(system, thing, thing, 0)
        self.assert_gap(System([], []), None, None, 0)

    def test_the_tightest_one_of_several(self):
        system = System(["a", "b", "c"], [("a", "b", 1), ("a", "b", 4), ("a", "b", -9), ("a", "c", 3), ("c", "b", 2)])
        self.assert_gap(system, "a", "b", 5)
        self.assert_gap(system.without(("c", "b", 2)), "a", "b", 4)
        self.assert_gap(system.with_rules(("c", "b", 1)).without(("c", "b", 2)), "a", "b", 4)

    def test_a_gap_of_0(self):
        system = System(["a", "b"], [("a", "b", 0), (None, "a", 0)])
        self.assert_gap(system, None, "b", 0)
        self.assert_same(window(system, "b"), (0, None))

    def test_rings_with_the_total_0(self):
        system = System(["a", "b", "c"], [("a", "b", 2), ("b", "a", -2), ("b", "c", 1), ("c", "b", -1), (None, "b", 7)])
        for low, high, gap in (("a", "c", 3), ("c", "a", -3), (None, "a", 5), (None, "c", 8), ("a", None, None)):
            self.assert_gap(system, low, high, gap)

    def test_small_systems_by_all_chains(self):
        for system in oracles.small_systems(6, 400):
            if not oracles.has_contradiction(system):
                gaps = oracles.tightest_gaps(system)
                for low in oracles.things_of(system):
                    for high in oracles.things_of(system):
                        self.assert_gap(system, low, high, gaps.get((low, high)))

    def test_bounded_systems_by_all_admitted_numbers(self):
        for system in oracles.bounded_systems(7, 80):
            found = oracles.admitted_in_box(system, 3)
            for low in oracles.things_of(system) if found else []:
                for high in oracles.things_of(system):
                    differences = [oracles.number(high, numbers) - oracles.number(low, numbers) for numbers in found]
                    self.assert_same(tightest(system, low, high), min(differences))
                    wanted = range(min(differences), -tightest(system, high, low) + 1)
                    self.assertEqual(sorted(set(differences)), list(wanted))

    def test_large_systems(self):
        ladder = oracles.ladder()
        self.assert_same(self.assert_quick(tightest, ladder, "a", "t"), 0)
        self.assert_same(self.assert_quick(chain, ladder, "a", "t"), [rule for rule in ladder.rules if rule[2] == 0])
        self.assertIsNone(self.assert_quick(chain, ladder, "t", "a"))
        tied = ladder.with_rules(("t", "a", 0), (None, "k", 999), ("k", None, -999))
        self.assert_same(self.assert_quick(window, tied, "c"), (999, 999))
        system, _ = oracles.far_system(8)
        for name in system.names:
            self.assert_gap(system, name, "a", self.assert_quick(tightest, system, name, "a"))

    def test_a_chain_through_all_settings(self):
        names = list("abcdefghijklmnopqrst")
        for order in (names, names[::-1], names[1::2] + names[::2]):
            system = System(names, [(low, high, 999) for low, high in zip(order, order[1:])])
            self.assert_gap(system, order[0], order[-1], 999 * 19)
            self.assert_gap(system, order[-1], order[0], None)

    def test_results_are_new(self):
        found = chain(CHAIN, None, "b")
        found.clear()
        self.assert_same(chain(CHAIN, None, "b"), [(None, "a", 3), ("a", "b", 2)])
        chain(CHAIN, "a", "a").append(1)
        self.assert_same(chain(CHAIN, "a", "a"), [])
        self.assert_same(len(CHAIN.rules), 4)

    def test_parameters_by_name(self):
        self.assert_same(tightest(high="c", low="a", system=CHAIN), 1)
        self.assert_same(chain(high="c", low="a", system=CHAIN), [("a", "b", 2), ("b", "c", -1)])
        self.assert_same(window(name="b", system=CHAIN), (5, 10))


class WindowTest(WindowCase):
    def test_bounds_on_both_sides_on_one_and_on_none(self):
        self.assert_same([window(CHAIN, name) for name in "abc"], [(3, 8), (5, 10), (4, 9)])
        system = System(["a", "b", "c"], [("a", "b", 2), (None, "a", -3)])
        self.assert_same([window(system, name) for name in "abc"], [(-3, None), (-1, None), (None, None)])
        system = System(["a", "b"], [("a", "b", 2), ("b", None, -3)])
        self.assert_same([window(system, name) for name in "ab"], [(None, 1), (None, 3)])

    def test_grounded_settings_and_windows_at_0(self):
        system = System(["a", "b"], [(None, "a", 0), ("a", None, 0), ("a", "b", 5), ("b", "a", -5)])
        self.assert_same([window(system, name) for name in "ab"], [(0, 0), (5, 5)])

    def test_numbers_of_any_size(self):
        names = list("abcdefghijklmnopqrst")
        rules = [(low, high, 999) for low, high in zip([None, *names], names)]
        self.assert_same(window(System(names, rules), "t"), (19980, None))
        rules = [(high, low, -999) for low, high in zip([None, *names], names)]
        self.assert_same(window(System(names, rules), "t"), (None, 19980))

    def test_bounded_systems_by_all_admitted_numbers(self):
        for system in oracles.bounded_systems(9, 80):
            found = oracles.admitted_in_box(system, 3)
            for name in system.names if found else []:
                each = [numbers[name] for numbers in found]
                self.assert_same(window(system, name), (min(each), max(each)))

    def test_small_systems_by_all_chains(self):
        for system in oracles.small_systems(10, 200):
            if not oracles.has_contradiction(system):
                gaps = oracles.tightest_gaps(system)
                for name in system.names:
                    below = gaps.get((name, None))
                    self.assert_same(window(system, name), (gaps.get((None, name)), None if below is None else -below))


class ErrorsTest(Case):
    def test_any_objects(self):
        for thing in [*objects(), CHAIN, ["a"], "c "]:
            if thing not in ("a", "b", None):
                for call in (tightest, chain):
                    self.assert_raises_exactly(UnknownSetting, call, CHAIN, thing, "a")
                    self.assert_raises_exactly(UnknownSetting, call, CHAIN, "a", thing)
                    self.assert_raises_exactly(UnknownSetting, call, CHAIN, thing, thing)
                    self.assert_raises_exactly(UnknownSetting, call, CHAIN, None, thing)
                self.assert_raises_exactly(UnknownSetting, window, CHAIN, thing)

    def test_the_ground_has_no_window(self):
        self.assert_raises_exactly(UnknownSetting, window, CHAIN, None)
        self.assert_raises_exactly(UnknownSetting, window, System([], []), None)

    def test_settings_of_other_systems(self):
        for call in (tightest, chain):
            self.assert_raises_exactly(UnknownSetting, call, CHAIN, "d", "d")
            self.assert_raises_exactly(UnknownSetting, call, System([], []), None, "a")
        self.assert_raises_exactly(UnknownSetting, window, CHAIN, "d")

    def test_contradiction(self):
        apart = System(["a", "b", "c"], [("b", "c", 1), ("c", "b", 0)])
        for system in (RING, apart):
            for call in (tightest, chain):
                for low, high in (("a", "b"), ("a", "a"), (None, None), (None, "c"), ("a", None)):
                    self.assert_raises_exactly(Contradiction, call, system, low, high)
            for name in "abc":
                self.assert_raises_exactly(Contradiction, window, system, name)

    def test_unknown_settings_come_first(self):
        for thing in ("x", True, ["a"], 0):
            for call in (tightest, chain):
                self.assert_raises_exactly(UnknownSetting, call, RING, thing, "a")
                self.assert_raises_exactly(UnknownSetting, call, RING, "a", thing)
            self.assert_raises_exactly(UnknownSetting, window, RING, thing)
        self.assert_raises_exactly(UnknownSetting, window, RING, None)


if __name__ == "__main__":
    unittest.main()
