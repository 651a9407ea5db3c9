"""Answers found another way than the program finds them, and systems to ask for."""

import itertools
import random
import string

from windowsteps.systems import System


def things_of(system):
    return [None, *system.names]


def small_systems(seed, many, *, settings=4, rules=7, gap=3):
    """Systems of few settings and rules, the same ones in every run."""
    chance = random.Random(seed)
    for _ in range(many):
        names = list("abcdefgh"[:chance.randint(0, settings)])
        chance.shuffle(names)
        pairs = list(itertools.permutations([None, *names], 2))
        many_rules = chance.randint(0, rules) if pairs else 0
        yield System(names, [(*chance.choice(pairs), chance.randint(-gap, gap)) for _ in range(many_rules)])


def bounded_systems(seed, many, *, settings=3, rules=4, gap=2, bound=3):
    """Small systems whose admitted numbers all lie from -bound to bound."""
    for system in small_systems(seed, many, settings=settings, rules=rules, gap=gap):
        bounds = [[(None, name, -bound), (name, None, -bound)] for name in system.names]
        yield system.with_rules(*itertools.chain(*bounds))


def far_system(seed, *, settings=20, rules=100, gap=999):
    """A large system without a contradiction, and admitted numbers of it."""
    chance = random.Random(seed)
    names = list(string.ascii_lowercase[:settings])
    hidden = {name: chance.randint(-gap // 2, gap // 2) for name in names}
    pairs = list(itertools.permutations([None, *names], 2))
    found = {}
    while len(found) < rules:
        low, high = chance.choice(pairs)
        room = number(high, hidden) - number(low, hidden)
        found[low, high, max(-999, room - chance.choice([0, 0, 1, 5, 400]))] = True
    return System(names, list(found)), hidden


def ladder(steps=19, *, rungs=5):
    """A system in which rungs ** steps chains lead from the first setting to the last one."""
    names = list(string.ascii_lowercase[:steps + 1])
    rules = [(low, high, gap) for low, high in zip(names, names[1:]) for gap in range(-rungs + 1, 1)]
    return System(names, rules)


def number(thing, numbers):
    return 0 if thing is None else numbers[thing]


def holds(rule, numbers):
    low, high, gap = rule
    return number(high, numbers) >= number(low, numbers) + gap


def admitted(system, numbers):
    return all(holds(rule, numbers) for rule in system.rules)


def box(system, bound):
    """All numbers of a system from -bound to bound."""
    names = system.names
    return [dict(zip(names, row)) for row in itertools.product(range(-bound, bound + 1), repeat=len(names))]


def admitted_in_box(system, bound):
    rules = system.rules
    return [numbers for numbers in box(system, bound) if all(holds(rule, numbers) for rule in rules)]


def simple_chains(system, start):
    """All chains from a thing that lead to nothing twice, with the rings that end where they start."""
    rules = system.rules
    waiting = [[rule] for rule in rules if rule[0] == start]
    while waiting:
        chain = waiting.pop()
        yield chain
        passed = [start, *[rule[1] for rule in chain]]
        if passed[-1] != start:
            further = [rule for rule in rules if rule[0] == passed[-1] and rule[1] not in passed[1:]]
            waiting.extend([*chain, rule] for rule in further)


def total(chain):
    return sum(rule[2] for rule in chain)


def has_contradiction(system):
    for thing in things_of(system):
        if any(chain[-1][1] == thing and total(chain) > 0 for chain in simple_chains(system, thing)):
            return True
    return False


def tightest_gaps(system):
    """The tightest gaps of a system without a contradiction, by pairs of things."""
    gaps = {}
    for low in things_of(system):
        for chain in simple_chains(system, low):
            pair = low, chain[-1][1]
            gaps[pair] = max(total(chain), gaps.get(pair, total(chain)))
    for thing in things_of(system):
        gaps[thing, thing] = 0
    return gaps


def is_chain(system, thing, low, high):
    """Whether any object is a list of rules of a system that leads from one thing to another one."""
    if type(thing) is not list or not thing:
        return False
    # Equal texts tell True from 1, and tuples from lists.
    rules = [repr(rule) for rule in system.rules]
    if not all(repr(rule) in rules for rule in thing):
        return False
    at = low
    for rule in thing:
        if rule[0] != at:
            return False
        at = rule[1]
    return at == high


def is_ring_above_0(system, thing):
    return any(is_chain(system, thing, start, start) and total(thing) > 0 for start in things_of(system))


def blocks_and_grounded(system):
    """The blocks and the grounded settings, from the tightest gaps of all chains."""
    gaps = tightest_gaps(system)

    def together(one, two):
        return (one, two) in gaps and (two, one) in gaps and gaps[one, two] + gaps[two, one] == 0

    fixed = [name for name in system.names if together(None, name)]
    loose = [name for name in system.names if name not in fixed]
    groups = {tuple(other for other in loose if together(name, other)) for name in loose}
    return [list(group) for group in sorted(groups)], fixed
