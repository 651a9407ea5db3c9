"""What holds for the whole program: promises 1 to 9."""

import itertools
import random
import unittest

from tests import oracles
from tests.support import Case
from windowsteps.better import better_move, is_better
from windowsteps.binds import bind, is_bind
from windowsteps.blocks import block_of, blocks, grounded
from windowsteps.board import Board
from windowsteps.certificates import certificate, check_certificate, total
from windowsteps.cheapest import cheapest, least_price
from windowsteps.errors import WindowError
from windowsteps.figures import first_breach, greater, is_admitted, shortfall, smaller
from windowsteps.history import History
from windowsteps.merging import conflicts, merge_task, merged
from windowsteps.moves import after_step, is_safe, safe_steps
from windowsteps.plans import Plan
from windowsteps.repairs import eased, repair, walk
from windowsteps.sequences import is_sequence, least_steps, moments, sequence
from windowsteps.shell import Shell
from windowsteps.systems import System
from windowsteps.tasks import Prices, Task, is_solution, price_of
from windowsteps.texts import format_system, parse_system
from windowsteps.windows import chain, contradiction, is_contradiction, tightest, window


def listed_steps(system, numbers):
    return list(safe_steps(numbers=numbers, system=system))


def listed_moments(system, old, new):
    return list(moments(new=new, old=old, system=system))


def all_calls(system, old, new, other, task):
    """Every function with its arguments by name."""
    rule = system.rules[0]
    step = ("a", 1)
    thing = {"system": system, "numbers": old}
    pair = {"system": system, "old": old, "new": new}
    sides = {"system": system, "base": old, "one": new, "two": other}
    amounts = [0] * len(system.rules)
    return [
        (shortfall, {**thing, "rule": rule}), (first_breach, {"system": system, "numbers": other}), (is_admitted, thing),
        (smaller, {"system": system, "one": old, "two": new}), (greater, {"system": system, "one": old, "two": new}),
        (format_system, {"system": system}), (parse_system, {"text": format_system(system)}),
        (contradiction, {"system": system}), (is_contradiction, {"system": system, "thing": [rule]}),
        (tightest, {"system": system, "low": "a", "high": "c"}), (chain, {"system": system, "low": "a", "high": "c"}),
        (window, {"system": system, "name": "b"}), (blocks, {"system": system}), (grounded, {"system": system}),
        (block_of, {"system": system, "name": "b"}), (after_step, {**thing, "step": step}), (is_safe, {**thing, "step": step}),
        (listed_steps, thing), (least_steps, pair), (sequence, pair), (is_sequence, {**pair, "thing": sequence(**pair)}),
        (listed_moments, pair), (Prices, {"raising": 3, "lowering": 4}),
        (Prices().with_price, {"name": "a", "price": 5}), (Task, {**thing, "prices": Prices()}),
        (price_of, {"task": task, "numbers": new}), (is_solution, {"task": task, "numbers": new}), (bind, {"task": task}),
        (is_bind, {"task": task, "thing": [rule]}), (least_price, {"task": task}), (cheapest, {"task": task}),
        (total, {"task": task, "amounts": amounts}), (certificate, {"task": task}),
        (check_certificate, {"task": task, "thing": amounts, "bar": 0}), (better_move, {"task": task, "numbers": new}),
        (is_better, {"task": task, "numbers": new, "thing": (("a", "b"), -1)}), (merged, sides), (conflicts, sides),
        (merge_task, {**sides, "prices": Prices(raising=7)}), (Plan, pair), (History, thing),
        (eased, {"system": system, "numbers": other}), (walk, {**pair, "old": other}), (repair, {"task": task}),
        (System, {"names": ["b", "a"], "rules": [("a", "b", 1)]}), (system.without, {"rule": rule}),
        (System.is_rule, {"thing": rule}),
    ]


def board_with(system):
    board = Board()
    board.create("main", format_system(system))
    return board


def told(outcome):
    """What can be seen of an outcome of any kind."""
    if isinstance(outcome, System):
        return repr(["System", outcome.names, outcome.rules])
    if isinstance(outcome, Prices):
        return repr(["Prices", outcome.raising, outcome.lowering, outcome.single])
    if isinstance(outcome, Task):
        return repr(["Task", told(outcome.system), outcome.numbers, told(outcome.prices)])
    if isinstance(outcome, Plan):
        return repr(["Plan", outcome.steps, outcome.done, outcome.current, outcome.is_finished])
    if isinstance(outcome, History):
        return repr(["History", told(outcome.system), outcome.numbers, outcome.breaches, outcome.spent, len(outcome)])
    if isinstance(outcome, Board):
        rows = [[told(outcome.system_of(name)), outcome.numbers_of(name), outcome.spent_on(name)] for name in outcome.names]
        return repr(["Board", outcome.names, rows])
    return repr(outcome)


def spoil(outcome):
    """Changes all that can be changed in an outcome."""
    if isinstance(outcome, tuple):
        for part in outcome:
            spoil(part)
    elif isinstance(outcome, list):
        for part in outcome:
            spoil(part)
        outcome.append(None)
        outcome.reverse()
    elif isinstance(outcome, dict):
        for key in list(outcome):
            spoil(outcome[key])
            outcome[key] = 77
        outcome["zz"] = 1


def lists_in(outcome):
    if isinstance(outcome, (list, tuple, dict)):
        if not isinstance(outcome, tuple):
            yield outcome
        for part in (outcome.values() if isinstance(outcome, dict) else outcome):
            yield from lists_in(part)


SYSTEM = System(["a", "b", "c"], [("a", "b", 2), ("b", "a", -2), ("b", "c", 0), (None, "a", -9)])
OLD, NEW, OTHER = {"a": 0, "b": 2, "c": 2}, {"a": 1, "b": 3, "c": 4}, {"a": 2, "b": 0, "c": -1}


def new_calls():
    return all_calls(SYSTEM, dict(OLD), dict(NEW), dict(OTHER), Task(SYSTEM, OTHER, Prices(raising=3).with_price("c", 2)))


class ArgumentsTest(Case):
    def test_every_call_by_name_in_every_order(self):
        for call, arguments in new_calls():
            names = list(arguments)
            wanted = told(call(**arguments))
            with self.subTest(call=call.__name__):
                if call is not Prices:
                    self.assertEqual(told(call(*arguments.values())), wanted)
                for order in itertools.permutations(names):
                    self.assertEqual(told(call(**{name: arguments[name] for name in order})), wanted)

    def test_arguments_stay_as_they_were(self):
        for call, arguments in new_calls():
            before = [told(argument) for argument in arguments.values()]
            call(**arguments)
            self.assertEqual([told(argument) for argument in arguments.values()], before, call.__name__)

    def test_keys_of_a_dict_may_come_in_any_order(self):
        for (call, arguments), (_, same) in zip(new_calls(), new_calls()):
            turned = {name: turned_over(argument) for name, argument in same.items()}
            self.assertEqual(told(call(**arguments)), told(call(**turned)), call.__name__)

    def test_returned_values_can_be_changed(self):
        for call, arguments in new_calls():
            before = [told(argument) for argument in arguments.values()]
            first = call(**arguments)
            wanted = told(first)
            spoil(first)
            self.assertEqual([told(argument) for argument in arguments.values()], before, call.__name__)
            self.assertEqual(told(call(**arguments)), wanted, call.__name__)

    def test_lists_within_a_result_are_different(self):
        for call, arguments in new_calls():
            found = list(lists_in(call(**arguments)))
            self.assertEqual(len({id(each) for each in found}), len(found), call.__name__)
            given = {id(each) for argument in arguments.values() for each in lists_in(argument)}
            self.assertFalse(given & {id(each) for each in found}, call.__name__)


def turned_over(argument):
    if isinstance(argument, dict):
        return {key: argument[key] for key in reversed(list(argument))}
    return argument


def answers(system, numbers, others, prices):
    """What every stage answers for a system; an error by its name."""
    calls = [
        lambda: [system.names, system.rules], lambda: first_breach(system, numbers), lambda: format_system(system),
        lambda: [shortfall(system, numbers, rule) for rule in system.rules], lambda: contradiction(system),
        lambda: [window(system, name) for name in system.names], lambda: blocks(system), lambda: grounded(system),
        lambda: [chain(system, low, high) for low, high in itertools.permutations([None, *system.names], 2)],
        lambda: listed_steps(system, numbers), lambda: sequence(system, numbers, others),
        lambda: listed_moments(system, numbers, others), lambda: bind(Task(system, numbers, prices)),
        lambda: cheapest(Task(system, numbers, prices)), lambda: certificate(Task(system, numbers, prices)),
        lambda: better_move(Task(system, numbers, prices), others), lambda: merged(system, numbers, others, numbers),
        lambda: Plan(system, numbers, others).steps, lambda: History(system, numbers).breaches,
        lambda: eased(system, numbers), lambda: walk(system, numbers, others), lambda: repair(Task(system, numbers, prices)),
        lambda: told(board_with(system)), lambda: settled(History(system, numbers), prices),
    ]
    return [answer(call) for call in calls]


def answer(call):
    try:
        return told(call())
    except WindowError as error:
        return type(error).__name__, getattr(error, "rule", None)


def settled(history, prices):
    return [history.settle(prices), history.numbers]


class EqualSystemsTest(Case):
    def test_systems_made_in_several_ways(self):
        chance = random.Random(120)
        for at, system in enumerate(oracles.small_systems(121, 120, gap=2)):
            numbers = {name: chance.randint(-2, 2) for name in system.names}
            admitted = oracles.admitted_in_box(system, 2)
            others = chance.choice(admitted) if admitted else numbers
            prices = oracles.any_prices(chance, system.names)
            wanted = answers(system, numbers, others, prices)
            for same in self.made_otherwise(system, chance):
                self.assertTrue(same == system)
                self.assertEqual(answers(same, numbers, others, prices), wanted, at)

    def made_otherwise(self, system, chance):
        names, rules = system.names, system.rules
        chance.shuffle(names)
        chance.shuffle(rules)
        yield System(names, rules + rules[:2])
        yield System(names, []).with_rules(*rules)
        single = System(names, rules[:1])
        for rule in rules[1:]:
            single = single.with_rules(rule)
        yield single
        yield parse_system(format_system(system))
        history = History(System(names, []), dict.fromkeys(names, 0))
        board = Board()
        board.create("x", format_system(System(names, [])))
        for rule in rules:
            history.demand(rule)
            board.require("x", rule)
        for rule in rules[:1]:
            history.waive(rule)
            history.undo()
            board.free("x", rule)
            board.require("x", rule)
        yield history.system
        yield board.system_of("x")

    def test_the_rules_of_one_system_are_not_those_of_another(self):
        rules = [("a", "b", 0)]
        one = System(["a", "b"], rules)
        rules.append(("b", "a", 0))
        two = System(["a", "b"], rules)
        self.assert_same([one.rules, two.rules], [[("a", "b", 0)], [("a", "b", 0), ("b", "a", 0)]])
        self.assertFalse(one == two)


class ChangedInPlaceTest(Case):
    def test_one_dict_for_many_calls(self):
        numbers = {"a": 0, "b": 2, "c": 2}
        seen = []
        for change in (0, 1, 5, -3):
            numbers["c"] = 2 + change
            fresh = dict(numbers)
            for given in (numbers, fresh):
                calls = [answer(lambda call=call, more=more: call(**more)) for call, more in all_of_numbers(given)]
                seen.append(calls)
            self.assertEqual(seen[-1], seen[-2])
        self.assertNotEqual(seen[0], seen[2])
        self.assertNotEqual(seen[0], seen[6])

    def test_one_list_for_many_calls(self):
        steps = []
        rules = []
        for step, is_whole, rule, is_ring in (
            (("c", 1), False, ("a", "b", 2), False), (("a", 1), False, ("b", "a", -2), False), (("c", 1), True, None, False),
        ):
            steps.append(step)
            self.assertIs(is_sequence(SYSTEM, OLD, NEW, steps), is_whole)
            rules.append(rule)
            self.assertIs(is_contradiction(SYSTEM, rules), is_ring)
        wrong = SYSTEM.with_rules(("b", "a", -1))
        rules[1:] = [("b", "a", -1)]
        self.assertIs(is_contradiction(wrong, rules), True)
        rules.pop()
        self.assertIs(is_contradiction(wrong, rules), False)


def all_of_numbers(numbers):
    """Calls that take numbers."""
    task = Task(SYSTEM, OLD, Prices())
    return [
        (first_breach, {"system": SYSTEM, "numbers": numbers}), (listed_steps, {"system": SYSTEM, "numbers": numbers}),
        (sequence, {"system": SYSTEM, "old": OLD, "new": numbers}), (sequence, {"system": SYSTEM, "old": numbers, "new": OLD}),
        (Task, {"system": SYSTEM, "numbers": numbers, "prices": Prices()}), (price_of, {"task": task, "numbers": numbers}),
        (better_move, {"task": task, "numbers": numbers}), (History, {"system": SYSTEM, "numbers": numbers}),
        (merged, {"system": SYSTEM, "base": OLD, "one": numbers, "two": NEW}), (eased, {"system": SYSTEM, "numbers": numbers}),
        (walk, {"system": SYSTEM, "old": numbers, "new": NEW}), (Plan, {"system": SYSTEM, "old": OLD, "new": numbers}),
    ]


class SharedPartsTest(Case):
    def test_tasks_that_share_parts(self):
        chance = random.Random(122)
        for system in oracles.small_systems(123, 60, gap=2):
            numbers = {name: chance.randint(-2, 2) for name in system.names}
            prices = oracles.any_prices(chance, system.names)
            tasks = [Task(system, numbers, prices), Task(system, numbers, prices)]
            numbers["a" if "a" in numbers else "zz"] = 7
            if system.names:
                tasks.append(Task(system, numbers, prices))
            more = system.with_rules(*[(None, name, 1) for name in system.names])
            tasks.extend([Task(more, tasks[0].numbers, prices), Task(system, tasks[0].numbers, prices.with_price("a", 3))])
            alone = [Task(System(task.system.names, task.system.rules), task.numbers, copy_of(task.prices)) for task in tasks]
            for one, two in zip(tasks, alone):
                for call in (bind, least_price, cheapest, certificate, repair):
                    self.assertEqual(answer(lambda: call(one)), answer(lambda: call(two)))

    def test_prices_of_several_tasks(self):
        base = Prices(raising=2)
        one, two = base.with_price("a", 5), base.with_price("a", None)
        self.assert_same([base.single, one.single, two.single], [{}, {"a": 5}, {"a": None}])
        found = [cheapest(Task(SYSTEM, OTHER, prices))[0] for prices in (base, one, two, base)]
        self.assert_same(found, [least_by_box(Task(SYSTEM, OTHER, prices)) for prices in (base, one, two, base)])


def copy_of(prices):
    fresh = Prices(raising=prices.raising, lowering=prices.lowering)
    for name, price in prices.single.items():
        fresh = fresh.with_price(name, price)
    return fresh


def least_by_box(task):
    return oracles.least_price_in_box(task, 7)


class FarTest(Case):
    def test_without_the_ground_all_is_the_same_far_up_and_down(self):
        chance = random.Random(124)
        for system in oracles.small_systems(125, 80, gap=2):
            free = System(system.names, [rule for rule in system.rules if None not in rule])
            numbers = {name: chance.randint(-2, 2) for name in free.names}
            admitted = oracles.admitted_in_box(free, 2)
            others = chance.choice(admitted) if admitted else numbers
            prices = oracles.any_prices(chance, free.names, fixed=0.15)
            wanted = far_answers(free, numbers, others, prices, 0)
            for far in (50000, -50000, 99000, -99000):
                moved = [{name: number + far for name, number in row.items()} for row in (numbers, others)]
                self.assertEqual(far_answers(free, *moved, prices, far), wanted)


def far_answers(system, numbers, others, prices, far):
    """Answers from which a distance is taken away."""
    task = Task(system, numbers, prices)
    calls = [
        lambda: first_breach(system, numbers), lambda: listed_steps(system, numbers),
        lambda: sequence(system, others, others), lambda: least_steps(system, numbers, others),
        lambda: sequence(system, numbers, others), lambda: least_price(task), lambda: bind(task) is None,
        lambda: check_certificate(task, certificate(task), least_price(task)), lambda: better_move(task, others) is None,
        lambda: price_of(task, cheapest(task)[1]), lambda: near(merged(system, others, numbers, others), far),
        lambda: eased(system, numbers), lambda: walk(system, numbers, others), lambda: repair(task)[0],
        lambda: History(system, numbers).breaches, lambda: near(Plan(system, others, others).current, far),
    ]
    return [answer(call) for call in calls]


def near(numbers, far):
    return {name: number - far for name, number in numbers.items()}


class WholeTest(Case):
    def test_from_a_text_to_a_repair(self):
        board = Board()
        board.create("main", "settings heat light pump\n- pump 2\nheat light 3\npump heat 1")
        task = Task(board.system_of("main"), board.numbers_of("main"), Prices(lowering=5))
        price, steps = repair(task)
        self.assert_same(price, 2 + 3 + 6)
        self.assertIs(check_certificate(task, certificate(task), price), True)
        self.assert_same(board.settle("main", lowering=5), price)
        history = History(eased(task.system, task.numbers), task.numbers)
        for step in steps:
            history.step(step)
        for rule in task.system.rules:
            history.demand(rule)
        self.assert_same([history.numbers, history.breaches], [board.numbers_of("main"), []])
        shell = Shell()
        shell.run("create main settings.heat.light.pump/-.pump.2/heat.light.3/pump.heat.1")
        self.assert_same([shell.run("settle main 1 5"), shell.run("show main")], ["11", "3 6 2"])

    def test_twenty_settings_with_a_hundred_rules(self):
        for seed in range(5):
            system, numbers = oracles.far_system(seed)
            chance = random.Random(seed)
            far = {name: number + chance.randint(-3, 3) for name, number in numbers.items()}
            prices = oracles.any_prices(chance, system.names, fixed=0)
            task = Task(system, far, prices)
            calls = [
                lambda: first_breach(system, far), lambda: contradiction(system), lambda: blocks(system),
                lambda: window(system, "k"), lambda: listed_steps(system, numbers), lambda: bind(task),
                lambda: cheapest(task), lambda: certificate(task), lambda: better_move(task, numbers),
                lambda: merged(system, numbers, far, numbers), lambda: Plan(system, numbers, numbers),
                lambda: eased(system, far), lambda: repair(task), lambda: walk(system, far, numbers),
                lambda: History(system, far).settle(prices), lambda: board_with(system).settle("main"),
            ]
            for call in calls:
                self.assert_quick(call)


if __name__ == "__main__":
    unittest.main()
