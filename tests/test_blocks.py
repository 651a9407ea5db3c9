"""Blocks and grounded settings: promises 6, 9 and 14."""

import unittest

from tests import oracles
from tests.support import Case, objects
from windowsteps.blocks import block_of, blocks, grounded
from windowsteps.errors import Contradiction, UnknownSetting
from windowsteps.systems import System

PAIRS = System(["a", "b", "c", "d"], [("a", "b", 2), ("b", "a", -2), ("c", None, 0), (None, "c", 0)])
WRONG = System(["a", "b", "c"], [("b", "c", 1), ("c", "b", 0)])


class BlockCase(Case):
    def assert_blocks(self, system, wanted, fixed):
        self.assert_same(blocks(system), wanted)
        self.assert_same(grounded(system), fixed)
        for name in system.names:
            own = [block for block in wanted if name in block]
            self.assert_same(block_of(system, name), own[0] if own else None)


class ExamplesTest(Case):
    def test_document(self):
        self.assert_examples("""
>>> from windowsteps.blocks import block_of, blocks, grounded
>>> from windowsteps.systems import System
>>> system = System(['a', 'b', 'c', 'd'], [('a', 'b', 2), ('b', 'a', -2), ('c', None, 0), (None, 'c', 0)])
>>> [blocks(system), grounded(system), block_of(system, 'b')]
[[['a', 'b'], ['d']], ['c'], ['a', 'b']]
""")


class BlocksTest(BlockCase):
    def test_no_settings_and_no_rules(self):
        self.assert_blocks(System([], []), [], [])
        self.assert_blocks(System(["c", "a", "b"], []), [["a"], ["b"], ["c"]], [])

    def test_rings_with_the_totals_0_and_below_0(self):
        self.assert_blocks(System(["a", "b"], [("a", "b", 3), ("b", "a", -3)]), [["a", "b"]], [])
        self.assert_blocks(System(["a", "b"], [("a", "b", 3), ("b", "a", -4)]), [["a"], ["b"]], [])
        self.assert_blocks(System(["a", "b"], [("a", "b", 3)]), [["a"], ["b"]], [])
        self.assert_blocks(System(["a", "b"], [("a", "b", 0), ("b", "a", 0)]), [["a", "b"]], [])

    def test_rings_of_several_rules(self):
        rules = [("c", "a", 4), ("a", "d", -1), ("d", "c", -3), ("b", "a", 9), ("b", "e", 0)]
        system = System(list("edcba"), rules)
        self.assert_blocks(system, [["a", "c", "d"], ["b"], ["e"]], [])
        self.assert_blocks(system.without(("a", "d", -1)), [["a"], ["b"], ["c"], ["d"], ["e"]], [])
        self.assert_blocks(system.with_rules(("a", "b", -9)), [["a", "b", "c", "d"], ["e"]], [])
        self.assert_blocks(system.with_rules(("e", "a", 9), ("a", "b", -9)), [["a", "b", "c", "d", "e"]], [])
        self.assert_blocks(system.with_rules(("e", "a", 9), ("a", "e", -9)), [["a", "c", "d", "e"], ["b"]], [])

    def test_only_the_tightest_chains_count(self):
        rules = [("a", "b", 3), ("a", "b", 1), ("b", "a", -3), ("b", "a", -8)]
        system = System(list("abcd"), [*rules, ("c", "d", 5), ("c", "d", 4), ("d", "c", -6)])
        self.assert_blocks(system, [["a", "b"], ["c"], ["d"]], [])
        self.assert_blocks(system.without(("a", "b", 3)), [["a"], ["b"], ["c"], ["d"]], [])
        self.assert_blocks(system.with_rules(("d", "c", -5)), [["a", "b"], ["c", "d"]], [])

    def test_grounded_settings(self):
        rules = [(None, "a", 4), ("a", None, -4), ("a", "b", 1), ("b", "a", -1), ("b", "c", 0)]
        system = System(["a", "b", "c"], rules)
        self.assert_blocks(system, [["c"]], ["a", "b"])
        self.assert_blocks(system.without((None, "a", 4)), [["a", "b"], ["c"]], [])
        self.assert_blocks(system.with_rules(("c", None, -5)), [], ["a", "b", "c"])

    def test_a_ring_of_the_ground_below_0(self):
        self.assert_blocks(System(["a"], [(None, "a", 4), ("a", None, -5)]), [["a"]], [])

    def test_a_block_is_named_by_its_smallest_name(self):
        names = ["zz", "b", "aa", "z", "ab"]
        rules = [("zz", "aa", 0), ("aa", "zz", 0), ("z", "b", 1), ("b", "ab", 1), ("ab", "z", -2)]
        self.assert_blocks(System(names, rules), [["aa", "zz"], ["ab", "b", "z"]], [])

    def test_a_block_of_all_settings(self):
        names = list("abcdefghijklmnopqrst")
        order = names[::-2] + names[::2]
        rules = [(low, high, 7) for low, high in zip(order, order[1:])] + [(order[-1], order[0], -133)]
        self.assert_blocks(System(names, rules), [names], [])
        self.assert_blocks(System(names, [*rules, ("k", None, -9), (None, "k", 9)]), [], names)
        self.assert_blocks(System(names, rules[:-1]), [[name] for name in names], [])

    def test_small_systems_by_all_chains(self):
        larger = 0
        for system in oracles.small_systems(11, 600, rules=8, gap=1):
            if not oracles.has_contradiction(system):
                wanted, fixed = oracles.blocks_and_grounded(system)
                self.assert_blocks(system, wanted, fixed)
                larger += len(fixed) > 0 or any(len(block) > 1 for block in wanted)
        self.assertGreater(larger, 50)

    def test_bounded_systems_by_all_admitted_numbers(self):
        for system in oracles.bounded_systems(12, 150, rules=6):
            found = oracles.admitted_in_box(system, 3)
            if not found:
                continue
            fixed = [name for name in system.names if len({numbers[name] for numbers in found}) == 1]
            self.assert_same(grounded(system), fixed)
            for one in system.names:
                steady = [two for two in system.names if len({numbers[one] - numbers[two] for numbers in found}) == 1]
                self.assert_same(block_of(system, one), None if one in fixed else steady)

    def test_large_systems(self):
        tied = oracles.ladder().with_rules(("t", "a", 0))
        self.assert_same(self.assert_quick(blocks, tied), [tied.names])
        self.assert_same(self.assert_quick(block_of, tied, "k"), tied.names)
        self.assert_same(self.assert_quick(grounded, tied), [])
        system, _ = oracles.far_system(13)
        found = self.assert_quick(blocks, system)
        self.assert_same(sorted([name for block in found for name in block] + grounded(system)), system.names)

    def test_results_are_new(self):
        found = blocks(PAIRS)
        found[0].append("x")
        found[1].clear()
        found.append(["y"])
        grounded(PAIRS).clear()
        block_of(PAIRS, "a").clear()
        self.assert_blocks(PAIRS, [["a", "b"], ["d"]], ["c"])

    def test_lists_within_a_result_are_different_objects(self):
        found = blocks(System(list("abcd"), [("a", "b", 0), ("b", "a", 0)]))
        self.assertEqual(len({id(block) for block in found}), len(found))
        self.assertIsNot(block_of(PAIRS, "a"), block_of(PAIRS, "b"))

    def test_parameters_by_name(self):
        self.assert_same(blocks(system=PAIRS), [["a", "b"], ["d"]])
        self.assert_same(grounded(system=PAIRS), ["c"])
        self.assert_same(block_of(name="b", system=PAIRS), ["a", "b"])


class ErrorsTest(Case):
    def test_any_objects(self):
        for thing in [*objects(), PAIRS, ["a"], ("a",), "e", None]:
            if thing not in ("a", "b"):
                self.assert_raises_exactly(UnknownSetting, block_of, PAIRS, thing)
                self.assert_raises_exactly(UnknownSetting, block_of, System([], []), thing)

    def test_contradiction(self):
        self.assert_raises_exactly(Contradiction, blocks, WRONG)
        self.assert_raises_exactly(Contradiction, grounded, WRONG)
        for name in "abc":
            self.assert_raises_exactly(Contradiction, block_of, WRONG, name)

    def test_a_contradiction_of_the_ground(self):
        system = System(["a", "b"], [(None, "a", 1), ("a", None, 0)])
        for call, arguments in ((blocks, ()), (grounded, ()), (block_of, ("b",))):
            self.assert_raises_exactly(Contradiction, call, system, *arguments)

    def test_unknown_settings_come_first(self):
        for thing in (None, "x", True, ["a"], ("b", "c", 1)):
            self.assert_raises_exactly(UnknownSetting, block_of, WRONG, thing)


if __name__ == "__main__":
    unittest.main()
