"""Histories: promise 24."""

import copy
import random
import unittest

from tests import oracles
from tests.accounts import Account, Failure, told
from tests.support import Case, objects
from windowsteps.errors import (
    Contradiction, InvalidNumbers, InvalidStep, InvalidSystem, NoSolution, NotAdmitted, NothingToUndo, UnknownRule,
    WindowError,
)
from windowsteps.history import History
from windowsteps.systems import System
from windowsteps.tasks import Prices

PAIR = System(["a", "b"], [("a", "b", 3)])
TIED = System(["a", "b", "c"], [("a", "b", 2), ("b", "a", -2), ("b", "c", 0)])
WRONG = System(["a", "b"], [("a", "b", 1), ("b", "a", 0)])


def state_of(history):
    system = history.system
    return [system.names, system.rules, history.numbers, history.breaches, history.spent, len(history)]


class HistoryCase(Case):
    def assert_state(self, history, system, numbers, breaches, spent, many):
        self.assertTrue(history.system == system)
        self.assert_same(history.numbers, numbers)
        self.assert_same(history.breaches, breaches)
        self.assert_same(history.spent, spent)
        self.assert_same(len(history), many)

    def assert_fails(self, kind, history, call, *arguments):
        """Checks for an error, after which nothing is changed."""
        before = state_of(history)
        self.assert_raises_exactly(kind, call, *arguments)
        self.assertEqual(state_of(history), before)

    def assert_not_admitted(self, rule, history, step):
        self.assert_fails(NotAdmitted, history, history.step, step)
        with self.assertRaises(NotAdmitted) as caught:
            history.step(step)
        self.assert_same(caught.exception.rule, rule)


class ExamplesTest(Case):
    def test_document(self):
        self.assert_examples("""
>>> from windowsteps.history import History
>>> from windowsteps.systems import System
>>> from windowsteps.tasks import Prices
>>> history = History(System(['a', 'b'], []), {'a': 0, 'b': 0})
>>> history.demand(('a', 'b', 2))
>>> [history.breaches, history.settle(Prices(lowering=3)), history.numbers]
[[('a', 'b', 2)], 2, {'a': 0, 'b': 2}]
>>> history.undo()
>>> [history.numbers, history.spent, len(history)]
[{'a': 0, 'b': 0}, 0, 1]
""")


class NewTest(HistoryCase):
    def test_at_the_beginning(self):
        self.assert_state(History(PAIR, {"b": 1, "a": 0}), PAIR, {"a": 0, "b": 1}, [("a", "b", 3)], 0, 0)
        self.assert_state(History(System([], []), {}), System([], []), {}, [], 0, 0)
        self.assert_state(History(WRONG, {"a": 0, "b": 9}), WRONG, {"a": 0, "b": 9}, [("b", "a", 0)], 0, 0)

    def test_breaches_are_ascending(self):
        system = System(["a", "b"], [("b", None, 5), ("a", "b", 2), ("a", "b", 1), (None, "a", 4), ("b", "a", -9)])
        wanted = [(None, "a", 4), ("a", "b", 1), ("a", "b", 2), ("b", None, 5)]
        self.assert_state(History(system, {"a": 0, "b": 0}), system, {"a": 0, "b": 0}, wanted, 0, 0)
        self.assert_same(History(system, {"a": 4, "b": 5}).breaches, [("a", "b", 2), ("b", None, 5)])

    def test_wrong_numbers(self):
        for thing in [*objects(), {"a": 0, "b": True}, {"a": 0}, History(PAIR, {"a": 0, "b": 0})]:
            self.assert_raises_exactly(InvalidNumbers, History, PAIR, thing)

    def test_arguments_are_copied(self):
        numbers = {"b": 1, "a": 0}
        history = History(PAIR, numbers)
        numbers["a"] = 50
        self.assert_same(history.numbers, {"a": 0, "b": 1})
        history.step(("b", 1))
        self.assertEqual(repr(numbers), "{'b': 1, 'a': 50}")

    def test_parameters_by_name(self):
        history = History(numbers={"a": 0, "b": 1}, system=PAIR)
        history.step(step=("b", 1))
        history.demand(rule=(None, "a", 0))
        history.waive(rule=("a", "b", 3))
        self.assert_same(history.settle(prices=Prices()), 0)
        self.assert_state(history, System(["a", "b"], [(None, "a", 0)]), {"a": 0, "b": 2}, [], 0, 4)


class StepTest(HistoryCase):
    def test_admitted_numbers(self):
        history = History(PAIR, {"a": 0, "b": 3})
        self.assertIsNone(history.step(("b", 1)))
        self.assertIsNone(history.step(("a", 1)))
        self.assert_state(history, PAIR, {"a": 1, "b": 4}, [], 0, 2)
        self.assert_not_admitted(("a", "b", 3), history, ("a", 1))
        self.assert_not_admitted(("a", "b", 3), history, ("b", -1))

    def test_numbers_that_are_not_admitted(self):
        history = History(PAIR, {"a": 0, "b": 1})
        self.assert_not_admitted(("a", "b", 3), history, ("a", 1))
        self.assert_not_admitted(("a", "b", 3), history, ("b", -1))
        history.step(("b", 1))
        self.assert_state(history, PAIR, {"a": 0, "b": 2}, [("a", "b", 3)], 0, 1)
        history.step(("a", -1))
        self.assert_state(history, PAIR, {"a": -1, "b": 2}, [], 0, 2)

    def test_shortfalls_that_stay(self):
        # A step may leave a rule that does not hold as it is.
        system = System(["a", "b", "c"], [("a", "b", 3)])
        history = History(system, {"a": 0, "b": 0, "c": 0})
        history.step(("c", -1))
        self.assert_state(history, system, {"a": 0, "b": 0, "c": -1}, [("a", "b", 3)], 0, 1)
        tied = History(TIED, {"a": 0, "b": 0, "c": 5})
        tied.step(("a", 1))
        tied.step(("a", -1))
        self.assert_state(tied, TIED, {"a": 0, "b": 0, "c": 5}, [("a", "b", 2)], 0, 2)

    def test_the_first_rule(self):
        system = System(["a", "b"], [("a", "b", 1), ("a", "b", 2), ("a", None, -3), (None, "b", 5)])
        self.assert_not_admitted(("a", "b", 1), History(system, {"a": 2, "b": 3}), ("a", 1))
        self.assert_not_admitted(("a", "b", 2), History(system, {"a": 2, "b": 4}), ("a", 1))
        self.assert_not_admitted(("a", None, -3), History(system, {"a": 3, "b": 9}), ("a", 1))
        self.assert_not_admitted((None, "b", 5), History(system, {"a": 3, "b": 4}), ("b", -1))
        # The first rule does not hold before either, but its shortfall does not grow.
        self.assert_not_admitted(("a", None, -3), History(system, {"a": 9, "b": 4}), ("a", 1))
        history = History(system, {"a": 9, "b": 4})
        history.step(("a", -1))
        self.assert_same(history.numbers, {"a": 8, "b": 4})

    def test_any_objects(self):
        history = History(TIED, {"a": 0, "b": 2, "c": 2})
        steps = [("b", 1), ("a", 2), ("a", 0), ("a", True), ("a", False), ["a", 1], ("a", 1, 1), ("a",), ("d", 1), (None, 1)]
        for thing in [*objects(), *steps, (["a"], 1), ("a", [1]), ({}, 1), TIED, history]:
            if repr(thing) != "('a', 1)":
                self.assert_fails(InvalidStep, history, history.step, thing)

    def test_a_contradiction_comes_first(self):
        history = History(WRONG, {"a": 0, "b": 1})
        for thing in (("a", 1), ("a", -1), None, True, ("x", 1), []):
            self.assert_fails(Contradiction, history, history.step, thing)

    def test_grounded_settings_are_in_no_block(self):
        system = System(["a"], [(None, "a", 1), ("a", None, -1)])
        history = History(system, {"a": 0})
        self.assert_fails(InvalidStep, history, history.step, ("a", 1))


class DemandAndWaiveTest(HistoryCase):
    def test_rules_come_and_go(self):
        history = History(PAIR, {"a": 0, "b": 3})
        self.assertIsNone(history.demand(("b", None, 0)))
        self.assert_state(history, PAIR.with_rules(("b", None, 0)), {"a": 0, "b": 3}, [("b", None, 0)], 0, 1)
        self.assertIsNone(history.waive(("a", "b", 3)))
        self.assert_state(history, System(["a", "b"], [("b", None, 0)]), {"a": 0, "b": 3}, [("b", None, 0)], 0, 2)
        history.undo()
        history.undo()
        self.assert_state(history, PAIR, {"a": 0, "b": 3}, [], 0, 0)

    def test_a_rule_that_is_there_changes_nothing_and_can_be_undone(self):
        history = History(PAIR, {"a": 0, "b": 3})
        history.demand(("a", "b", 3))
        self.assert_state(history, PAIR, {"a": 0, "b": 3}, [], 0, 1)
        history.undo()
        self.assert_state(history, PAIR, {"a": 0, "b": 3}, [], 0, 0)

    def test_a_contradiction_can_be_demanded_and_waived(self):
        history = History(PAIR, {"a": 0, "b": 3})
        history.demand(("b", "a", -2))
        self.assert_fails(Contradiction, history, history.step, ("a", 1))
        self.assert_fails(Contradiction, history, history.settle, Prices())
        history.waive(("b", "a", -2))
        self.assert_state(history, PAIR, {"a": 0, "b": 3}, [], 0, 2)
        history.step(("b", 1))

    def test_wrong_rules(self):
        history = History(PAIR, {"a": 0, "b": 3})
        rules = [("a", "c", 0), ("a", "b", True), ("a", "b", 1000), ("a", "a", 0), ["a", "b", 3], (None, None, 0)]
        for thing in [*objects(), *rules, PAIR, history]:
            if repr(thing) not in ("('a', 'b', -999)", "('a', 'b', 999)"):
                self.assert_fails(InvalidSystem, history, history.demand, thing)
                self.assert_fails(UnknownRule, history, history.waive, thing)
        for rule in (("a", "b", 2), ("b", "a", 3), (None, "a", 0), ("a", "b", -3)):
            self.assert_fails(UnknownRule, history, history.waive, rule)
        self.assert_state(history, PAIR, {"a": 0, "b": 3}, [], 0, 0)


class SettleTest(HistoryCase):
    def test_prices_add_up(self):
        history = History(PAIR, {"a": 0, "b": 1})
        self.assert_same(history.settle(Prices(lowering=5)), 2)
        self.assert_state(history, PAIR, {"a": 0, "b": 3}, [], 2, 1)
        history.demand(("b", None, -1))
        self.assert_same(history.settle(Prices(lowering=5).with_price("a", 4)), 18)
        more = PAIR.with_rules(("b", None, -1))
        self.assert_state(history, more, {"a": -2, "b": 1}, [], 20, 3)
        history.undo()
        self.assert_state(history, more, {"a": 0, "b": 3}, [("b", None, -1)], 2, 2)
        history.undo()
        history.undo()
        self.assert_state(history, PAIR, {"a": 0, "b": 1}, [("a", "b", 3)], 0, 0)

    def test_a_settlement_that_costs_nothing(self):
        history = History(PAIR, {"a": 0, "b": 9})
        self.assert_same(history.settle(Prices()), 0)
        self.assert_state(history, PAIR, {"a": 0, "b": 9}, [], 0, 1)
        history.undo()
        self.assert_state(history, PAIR, {"a": 0, "b": 9}, [], 0, 0)

    def test_undoing_other_calls_keeps_the_sum_spent(self):
        history = History(PAIR, {"a": 0, "b": 0})
        history.settle(Prices(lowering=2))
        history.step(("b", 1))
        history.undo()
        self.assert_state(history, PAIR, {"a": 0, "b": 3}, [], 3, 1)

    def test_binds_and_contradictions(self):
        history = History(PAIR, {"a": 0, "b": 2})
        fixed = Prices().with_price("a", None).with_price("b", None)
        self.assert_fails(NoSolution, history, history.settle, fixed)
        history.demand(("b", "a", -2))
        self.assert_fails(Contradiction, history, history.settle, fixed)
        self.assert_fails(Contradiction, history, history.settle, Prices())

    def test_the_prices_stay_as_they_were(self):
        prices = Prices(lowering=5).with_price("c", 7)
        history = History(PAIR, {"a": 0, "b": 1})
        self.assert_same([history.settle(prices), history.settle(prices)], [2, 0])
        self.assert_same([prices.raising, prices.lowering, prices.single], [1, 5, {"c": 7}])


class UndoTest(HistoryCase):
    def test_nothing_to_undo(self):
        history = History(PAIR, {"a": 0, "b": 1})
        self.assert_fails(NothingToUndo, history, history.undo)
        history.demand((None, "a", 0))
        self.assertIsNone(history.undo())
        self.assert_fails(NothingToUndo, history, history.undo)

    def test_calls_that_failed_are_not_undone(self):
        history = History(PAIR, {"a": 0, "b": 3})
        history.step(("b", 1))
        for call, thing, kind in (
            (history.step, ("a", 2), InvalidStep), (history.demand, None, InvalidSystem),
            (history.waive, None, UnknownRule), (history.step, ("b", True), InvalidStep),
        ):
            self.assert_fails(kind, history, call, thing)
        history.undo()
        self.assert_state(history, PAIR, {"a": 0, "b": 3}, [], 0, 0)

    def test_an_undo_cannot_be_undone(self):
        history = History(PAIR, {"a": 0, "b": 3})
        history.step(("b", 1))
        history.step(("b", 1))
        history.undo()
        history.step(("a", 1))
        self.assert_same([history.numbers, len(history)], [{"a": 1, "b": 4}, 2])
        history.undo()
        history.undo()
        self.assert_state(history, PAIR, {"a": 0, "b": 3}, [], 0, 0)

    def test_two_hundred_calls(self):
        history = History(PAIR, {"a": 0, "b": 0})
        states = []
        for at in range(50):
            for call, thing in (
                (history.demand, (None, "b", at)), (history.settle, Prices(lowering=3)), (history.step, ("b", 1)),
                (history.waive, (None, "b", at)),
            ):
                states.append(state_of(history))
                call(thing)
        self.assert_same(len(history), 200)
        for state in reversed(states):
            history.undo()
            self.assertEqual(state_of(history), state)
        self.assert_fails(NothingToUndo, history, history.undo)


class CopyTest(HistoryCase):
    def test_copies_go_on_apart(self):
        history = History(PAIR, {"a": 0, "b": 1})
        history.settle(Prices(lowering=2))
        history.step(("b", 1))
        copied = history.copy()
        self.assertIs(type(copied), History)
        self.assertEqual(state_of(copied), state_of(history))
        history.undo()
        history.undo()
        history.demand((None, "a", 7))
        self.assert_state(copied, PAIR, {"a": 0, "b": 4}, [], 2, 2)
        copied.waive(("a", "b", 3))
        copied.undo()
        copied.undo()
        self.assert_state(copied, PAIR, {"a": 0, "b": 3}, [], 2, 1)
        copied.undo()
        self.assert_state(copied, PAIR, {"a": 0, "b": 1}, [("a", "b", 3)], 0, 0)
        more = PAIR.with_rules((None, "a", 7))
        self.assert_state(history, more, {"a": 0, "b": 1}, [(None, "a", 7), ("a", "b", 3)], 0, 1)

    def test_returned_values_are_new(self):
        history = History(PAIR, {"a": 0, "b": 1})
        history.settle(Prices(lowering=2))
        copied = history.copy()
        for each in (history, copied):
            each.numbers["a"] = 99
            each.numbers.clear()
            each.breaches.append(None)
            each.system.rules.clear()
            each.system.names.clear()
        for each in (history, copied):
            self.assert_state(each, PAIR, {"a": 0, "b": 3}, [], 2, 1)
            each.undo()
            self.assert_state(each, PAIR, {"a": 0, "b": 1}, [("a", "b", 3)], 0, 0)

    def test_systems_that_were_returned_do_not_change(self):
        history = History(PAIR, {"a": 0, "b": 1})
        before = history.system
        history.demand((None, "a", 0))
        self.assertTrue(before == PAIR)


class SecondAccountTest(HistoryCase):
    def test_random_calls(self):
        seen = {}
        for seed in range(120):
            chance = random.Random(seed)
            names = list("abc"[:chance.randint(0, 3)])
            numbers = {name: chance.randint(-2, 2) for name in names}
            history, account = History(System(names, []), numbers), Account(names, [], numbers)
            earlier = []
            for _ in range(25):
                call, thing = self.any_call(chance, account)
                outcome = self.run_both(history, account, earlier, call, thing)
                seen[call, outcome] = seen.get((call, outcome), 0) + 1
                account = earlier.pop() if outcome == "undone" else account
                wanted = [account.system(), account.numbers, account.breaches(), account.spent, len(earlier)]
                self.assert_state(history, *wanted)
        for call, outcome in (
            ("step", None), ("step", "NotAdmitted"), ("step", "InvalidStep"), ("step", "Contradiction"), ("demand", None),
            ("demand", "InvalidSystem"), ("waive", None), ("waive", "UnknownRule"), ("settle", None),
            ("settle", "Contradiction"), ("settle", "NoSolution"), ("undo", "undone"), ("undo", "NothingToUndo"),
        ):
            self.assertGreater(seen.get((call, outcome), 0), 2, (call, outcome))

    def any_call(self, chance, account):
        names = [None, *account.names, "d"]
        rule = (chance.choice(names), chance.choice(names), chance.randint(-2, 2))
        waived = chance.choice([rule, *account.ascending()])
        prices = oracles.any_prices(chance, account.names, fixed=0.3)
        step = (chance.choice(names[1:]), chance.choice([1, -1]))
        step = chance.choice([step] * 6 + [(step[0], True), None])
        calls = [("step", step)] * 5 + [("demand", rule)] * 5 + [("waive", waived)] * 3 + [("settle", prices)] * 3
        return chance.choice([*calls, ("undo", None), ("undo", None)])

    def run_both(self, history, account, earlier, call, thing):
        """Runs a call on both; returns the name of the error, or "undone"."""
        if call == "undo":
            if not earlier:
                self.assert_fails(NothingToUndo, history, history.undo)
                return "NothingToUndo"
            history.undo()
            return "undone"
        before = copy.deepcopy(account)
        try:
            result, error = getattr(history, call)(thing), None
        except WindowError as raised:
            result, error = None, told(raised)
        try:
            if call == "settle":
                wanted = account.settle(thing, history.numbers, result)
            else:
                wanted = getattr(account, call)(thing)
        except Failure as failure:
            self.assert_same(error, failure.told)
            return error[0]
        self.assertIsNone(error)
        self.assert_same(result, wanted)
        earlier.append(before)
        return None


class LargeTest(HistoryCase):
    def test_twenty_settings_with_a_hundred_rules(self):
        for seed in range(10):
            system, numbers = oracles.far_system(seed, rules=98)
            chance = random.Random(seed)
            far = {name: number + chance.randint(-50000, 50000) for name, number in numbers.items()}
            history = History(system, far)
            rule = self.assert_quick(lambda: history.breaches)[0]
            self.assert_quick(history.waive, rule)
            self.assert_quick(history.demand, rule)
            self.assert_quick(self.try_all_steps, history)
            price = self.assert_quick(history.settle, oracles.any_prices(chance, system.names, fixed=0))
            self.assert_same(history.spent, price)
            self.assertTrue(oracles.admitted(system, history.numbers))
            self.assert_quick(self.try_all_steps, history)
            self.assertEqual(history.breaches, [])
            while len(history) > 0:
                history.undo()
            self.assert_same(history.numbers, far)

    def try_all_steps(self, history):
        for name in history.system.names:
            for change in (1, -1):
                try:
                    history.step((name, change))
                except (NotAdmitted, InvalidStep):
                    pass


if __name__ == "__main__":
    unittest.main()
