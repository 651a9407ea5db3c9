"""A second account of histories and boards, in plain dicts that are copied whole for every change."""

import copy

from tests import oracles
from windowsteps.systems import System
from windowsteps.tasks import Prices, Task

NAME_LETTERS = set("abcdefghijklmnopqrstuvwxyz")
LENGTHS = {"create": 2, "require": 2, "free": 2, "move": 3, "lead": 2, "settle": 1, "drop": 1, "mark": 1, "back": 1}


class Failure(Exception):
    """An error by the name of its class, with its line or its rule."""

    def __init__(self, kind, detail=None):
        super().__init__(kind, detail)
        self.told = (kind, detail)


def told(error):
    """What a failure would tell of an error of the program."""
    return type(error).__name__, getattr(error, "line", getattr(error, "rule", None))


def is_name(thing):
    return type(thing) is str and 1 <= len(thing) <= 8 and set(thing) <= NAME_LETTERS


def is_numbers(names, thing):
    if type(thing) is not dict or set(map(repr, thing)) != set(map(repr, names)):
        return False
    return all(type(number) is int and abs(number) <= 99999 for number in thing.values())


class Account:
    """One system with numbers and a sum spent."""

    def __init__(self, names, rules, numbers):
        self.names = sorted(names)
        self.rules = set(rules)
        self.numbers = {name: numbers[name] for name in self.names}
        self.spent = 0

    def system(self):
        return System(self.names, list(self.rules))

    def ascending(self):
        return sorted(self.rules, key=lambda rule: tuple("" if part is None else part for part in rule))

    def breaches(self):
        return [rule for rule in self.ascending() if not oracles.holds(rule, self.numbers)]

    def is_rule(self, thing):
        if type(thing) is not tuple or len(thing) != 3 or repr(thing[0]) == repr(thing[1]):
            return False
        ends = [repr(end) for end in (None, *self.names)]
        if repr(thing[0]) not in ends or repr(thing[1]) not in ends:
            return False
        return type(thing[2]) is int and abs(thing[2]) <= 999

    def demand(self, rule):
        if not self.is_rule(rule):
            raise Failure("InvalidSystem")
        self.rules.add(rule)

    def waive(self, rule):
        if not self.is_rule(rule) or rule not in self.rules:
            raise Failure("UnknownRule")
        self.rules.remove(rule)

    def check_agreement(self):
        if oracles.has_contradiction(self.system()):
            raise Failure("Contradiction")

    def step(self, step):
        self.check_agreement()
        blocks = {block[0]: block for block in oracles.blocks_and_grounded(self.system())[0]}
        if repr(step) not in [repr((name, change)) for name in blocks for change in (1, -1)]:
            raise Failure("InvalidStep")
        name, change = step
        after = {each: number + change * (each in blocks[name]) for each, number in self.numbers.items()}
        for rule in self.ascending():
            missing = oracles.shortfall(rule, after)
            if missing > 0 and missing > oracles.shortfall(rule, self.numbers):
                raise Failure("NotAdmitted", rule)
        self.numbers = after

    def lead(self, numbers):
        if not is_numbers(self.names, numbers):
            raise Failure("InvalidNumbers")
        for each in (self.numbers, numbers):
            for rule in self.ascending():
                if not oracles.holds(rule, each):
                    raise Failure("NotAdmitted", rule)
        blocks = oracles.blocks_and_grounded(self.system())[0]
        many = sum(abs(numbers[block[0]] - self.numbers[block[0]]) for block in blocks)
        self.numbers = {name: numbers[name] for name in self.names}
        return many

    def settle(self, prices, numbers, price):
        """Checks what a settlement led to, and follows it; numbers and price are None if it failed."""
        self.check_agreement()
        task = Task(self.system(), self.numbers, prices)
        if oracles.has_bind(task):
            raise Failure("NoSolution")
        assert oracles.admitted(task.system, numbers) and oracles.price(task, numbers) == price
        if max(map(abs, self.numbers.values()), default=0) <= 4 and len(self.names) <= 3:
            assert oracles.least_price_in_box(task, 8) == price
        else:
            assert not oracles.has_better_move(task, numbers)
        self.numbers = dict(numbers)
        self.spent += price
        return price


class BoardAccount:
    """A board: accounts by name, marks, and a log."""

    def __init__(self):
        self.accounts = {}
        self.marks = {}
        self.log = []

    def run(self, command, outcome):
        """Follow a command; outcome tells the price and the numbers of a settlement by the name of its system."""
        self.log.append(command[0])
        more = {"outcome": outcome} if command[0] in ("settle", "batch") else {}
        try:
            result = getattr(self, command[0])(*command[1:], **more)
        except Failure:
            self.log.append("failed")
            raise
        self.log.append("done")
        return result

    def account(self, name):
        if not is_name(name) or name not in self.accounts:
            raise Failure("UnknownName")
        return self.accounts[name]

    def create(self, name, text):
        self.check_new(name, self.accounts)
        line = first_wrong_line(text)
        if line is not None:
            raise Failure("ParseError", line)
        names = text.split("\n")[0].split(" ")[1:]
        rules = [line.split(" ") for line in text.split("\n")[1:]]
        ends = [tuple(None if word == "-" else word for word in rule[:2]) for rule in rules]
        whole = [(*pair, int(rule[2])) for pair, rule in zip(ends, rules)]
        self.accounts[name] = Account(names, whole, dict.fromkeys(names, 0))

    def check_new(self, name, taken):
        if not is_name(name):
            raise Failure("InvalidName")
        if name in taken:
            raise Failure("DuplicateName")

    def require(self, name, rule):
        self.account(name).demand(rule)

    def free(self, name, rule):
        self.account(name).waive(rule)

    def move(self, name, block, change):
        self.account(name).step((block, change))

    def lead(self, name, numbers):
        return self.account(name).lead(numbers)

    def settle(self, name, raising=1, lowering=1, *, outcome):
        account = self.account(name)
        if not all(type(price) is int and 1 <= price <= 999 for price in (raising, lowering)):
            raise Failure("InvalidPrices")
        price, numbers = outcome.get(name, (None, None))
        return account.settle(Prices(raising=raising, lowering=lowering), numbers, price)

    def drop(self, name):
        self.account(name)
        del self.accounts[name]

    def mark(self, label):
        self.check_new(label, self.marks)
        self.marks[label] = copy.deepcopy(self.accounts)

    def back(self, label):
        if not is_name(label) or label not in self.marks:
            raise Failure("UnknownMark")
        self.accounts = copy.deepcopy(self.marks[label])

    def batch(self, commands, *, outcome):
        if type(commands) is not list:
            raise Failure("InvalidCommand")
        kept = copy.deepcopy((self.accounts, self.marks))
        results = []
        try:
            for command in commands:
                if type(command) is not tuple or not command or type(command[0]) is not str:
                    raise Failure("InvalidCommand")
                if LENGTHS.get(command[0]) != len(command) - 1:
                    raise Failure("InvalidCommand")
                results.append(self.run(command, outcome))
        except Failure:
            self.accounts, self.marks = kept
            raise
        return results


def first_wrong_line(text):
    """The first line of a text that no text of a system can have there, or None."""
    if type(text) is not str:
        return 0
    heading, *lines = text.split("\n")
    names = heading.split(" ")[1:]
    if heading != " ".join(["settings", *sorted(set(names))]) or not all(map(is_name, names)):
        return 0
    ends = ["-", *names]
    last = None
    for at, line in enumerate(lines, start=1):
        words = line.split(" ")
        if len(words) != 3 or words[0] not in ends or words[1] not in ends or words[0] == words[1]:
            return at
        if words[2] not in GAPS:
            return at
        rule = (words[0].strip("-"), words[1].strip("-"), int(words[2]))
        if last is not None and rule <= last:
            return at
        last = rule
    return None


GAPS = {str(gap) for gap in range(-999, 1000)}
