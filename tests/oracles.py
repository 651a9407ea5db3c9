"""Answers found another way than the program finds them, and systems to ask for."""

import itertools
import random
import string

from windowsteps.systems import System
from windowsteps.tasks import Prices, Task


def things_of(system):
    return [None, *system.names]


def small_systems(seed, many, *, settings=4, rules=7, gap=3):
    """Systems of few settings and rules, the same ones in every run."""
    chance = random.Random(seed)
    for _ in range(many):
        names = list("abcdefgh"[:chance.randint(0, settings)])
        chance.shuffle(names)
        pairs = list(itertools.permutations([None, *names], 2))
        many_rules = chance.randint(0, rules) if pairs else 0
        yield System(names, [(*chance.choice(pairs), chance.randint(-gap, gap)) for _ in range(many_rules)])


def bounded_systems(seed, many, *, settings=3, rules=4, gap=2, bound=3):
    """Small systems whose admitted numbers all lie from -bound to bound."""
    for system in small_systems(seed, many, settings=settings, rules=rules, gap=gap):
        bounds = [[(None, name, -bound), (name, None, -bound)] for name in system.names]
        yield system.with_rules(*itertools.chain(*bounds))


def far_system(seed, *, settings=20, rules=100, gap=999):
    """A large system without a contradiction, and admitted numbers of it."""
    chance = random.Random(seed)
    names = list(string.ascii_lowercase[:settings])
    hidden = {name: chance.randint(-gap // 2, gap // 2) for name in names}
    pairs = list(itertools.permutations([None, *names], 2))
    found = {}
    while len(found) < rules:
        low, high = chance.choice(pairs)
        room = number(high, hidden) - number(low, hidden)
        found[low, high, max(-999, room - chance.choice([0, 0, 1, 5, 400]))] = True
    return System(names, list(found)), hidden


def ladder(steps=19, *, rungs=5):
    """A system in which rungs ** steps chains lead from the first setting to the last one."""
    names = list(string.ascii_lowercase[:steps + 1])
    rules = [(low, high, gap) for low, high in zip(names, names[1:]) for gap in range(-rungs + 1, 1)]
    return System(names, rules)


def number(thing, numbers):
    return 0 if thing is None else numbers[thing]


def holds(rule, numbers):
    low, high, gap = rule
    return number(high, numbers) >= number(low, numbers) + gap


def admitted(system, numbers):
    return all(holds(rule, numbers) for rule in system.rules)


def box(system, bound):
    """All numbers of a system from -bound to bound."""
    names = system.names
    return [dict(zip(names, row)) for row in itertools.product(range(-bound, bound + 1), repeat=len(names))]


def admitted_in_box(system, bound):
    rules = system.rules
    return [numbers for numbers in box(system, bound) if all(holds(rule, numbers) for rule in rules)]


def simple_chains(system, start):
    """All chains from a thing that lead to nothing twice, with the rings that end where they start."""
    rules = system.rules
    waiting = [[rule] for rule in rules if rule[0] == start]
    while waiting:
        chain = waiting.pop()
        yield chain
        passed = [start, *[rule[1] for rule in chain]]
        if passed[-1] != start:
            further = [rule for rule in rules if rule[0] == passed[-1] and rule[1] not in passed[1:]]
            waiting.extend([*chain, rule] for rule in further)


def total(chain):
    return sum(rule[2] for rule in chain)


def has_contradiction(system):
    for thing in things_of(system):
        if any(chain[-1][1] == thing and total(chain) > 0 for chain in simple_chains(system, thing)):
            return True
    return False


def tightest_gaps(system):
    """The tightest gaps of a system without a contradiction, by pairs of things."""
    gaps = {}
    for low in things_of(system):
        for chain in simple_chains(system, low):
            pair = low, chain[-1][1]
            gaps[pair] = max(total(chain), gaps.get(pair, total(chain)))
    for thing in things_of(system):
        gaps[thing, thing] = 0
    return gaps


def is_chain(system, thing, low, high):
    """Whether any object is a list of rules of a system that leads from one thing to another one."""
    if type(thing) is not list or not thing:
        return False
    # Equal texts tell True from 1, and tuples from lists.
    rules = [repr(rule) for rule in system.rules]
    if not all(repr(rule) in rules for rule in thing):
        return False
    at = low
    for rule in thing:
        if rule[0] != at:
            return False
        at = rule[1]
    return at == high


def is_ring_above_0(system, thing):
    return any(is_chain(system, thing, start, start) and total(thing) > 0 for start in things_of(system))


def blocks_and_grounded(system):
    """The blocks and the grounded settings, from the tightest gaps of all chains."""
    gaps = tightest_gaps(system)

    def together(one, two):
        return (one, two) in gaps and (two, one) in gaps and gaps[one, two] + gaps[two, one] == 0

    fixed = [name for name in system.names if together(None, name)]
    loose = [name for name in system.names if name not in fixed]
    groups = {tuple(other for other in loose if together(name, other)) for name in loose}
    return [list(group) for group in sorted(groups)], fixed


def bipartite_system(seed):
    """A system of twenty settings in which each of ten lies below each of the ten others."""
    chance = random.Random(seed)
    names = list(string.ascii_lowercase[:20])
    return System(names, [(low, high, chance.randint(-999, 999)) for low in names[:10] for high in names[10:]])


def steps_towards(system, groups, old, new):
    """The sequence from old to new numbers whose steps are the first ones that are safe and lead there."""
    numbers, found = dict(old), []
    while numbers != new:
        for block in groups:
            change = (new[block[0]] > numbers[block[0]]) - (new[block[0]] < numbers[block[0]])
            after = {name: numbers[name] + change * (name in block) for name in numbers}
            if change != 0 and admitted(system, after):
                found.append((block[0], change))
                numbers = after
                break
    return found


def leads_to(system, old, new, thing):
    """Whether any object is a sequence from old to new numbers."""
    found = blocks_and_grounded(system)[0]
    groups = {repr((block[0], change)): (block, change) for block in found for change in (1, -1)}
    if type(thing) is not list:
        return False
    numbers = dict(old)
    for step in thing:
        if repr(step) not in groups:
            return False
        block, change = groups[repr(step)]
        numbers = {name: numbers[name] + change * (name in block) for name in numbers}
        if not admitted(system, numbers):
            return False
    return numbers == new


def least_numbers_of_steps(system, old, bound):
    """The least numbers of steps from old numbers to all numbers of a box, by a search over all steps."""
    groups = blocks_and_grounded(system)[0]
    names = system.names
    allowed = {tuple(numbers.values()) for numbers in admitted_in_box(system, bound)}
    first = tuple(old[name] for name in names)
    many = {first: 0}
    waiting = [first]
    for row in waiting:
        for block in groups:
            for change in (1, -1):
                after = tuple(worth + change * (name in block) for name, worth in zip(names, row))
                if after in allowed and after not in many:
                    many[after] = many[row] + 1
                    waiting.append(after)
    return many


def small_tasks(seed, many, *, settings=3, rules=6, gap=2, bound=2):
    """Tasks of few settings, with old numbers from -bound to bound."""
    chance = random.Random(seed)
    for system in small_systems(seed, many, settings=settings, rules=rules, gap=gap):
        numbers = {name: chance.randint(-bound, bound) for name in system.names}
        yield Task(system, numbers, any_prices(chance, system.names))


def any_prices(chance, names, *, fixed=0.25):
    """Prices of all sizes, some of them single ones, and some settings fixed."""
    prices = Prices(raising=any_price(chance), lowering=any_price(chance))
    for name in names:
        draw = chance.random()
        if draw < fixed:
            prices = prices.with_price(name, None)
        elif draw < 0.6:
            prices = prices.with_price(name, any_price(chance))
    return prices


def any_price(chance):
    return chance.choice([1, 2, 3, 4, 8, 64, 512, 999, chance.randint(1, 999)])


def prices_of(prices, name):
    """The prices of raising and lowering a setting; None for fixed."""
    price = prices.single.get(name, 0)
    if price is None:
        return None
    return (price, price) if price else (prices.raising, prices.lowering)


def price(task, numbers):
    """The price of numbers, or None if a fixed setting is changed."""
    whole = 0
    for name, old in task.numbers.items():
        new = numbers[name]
        if new != old:
            each = prices_of(task.prices, name)
            if each is None:
                return None
            whole += (new - old) * each[0] if new > old else (old - new) * each[1]
    return whole


def least_price_in_box(task, bound):
    prices = [price(task, numbers) for numbers in admitted_in_box(task.system, bound)]
    return min((each for each in prices if each is not None), default=None)


def anchors(task):
    return [None, *[name for name in task.system.names if prices_of(task.prices, name) is None]]


def is_bind(task, thing):
    for low in anchors(task):
        for high in anchors(task):
            if low != high and is_chain(task.system, thing, low, high):
                return total(thing) > number(high, task.numbers) - number(low, task.numbers)
    return False


def has_bind(task):
    """Whether a task has a bind that leads to nothing twice; if there is no contradiction, any bind."""
    return any(is_bind(task, chain) for low in anchors(task) for chain in simple_chains(task.system, low))


def has_better_move(task, numbers):
    """Whether a common move by one of any settings leads from a solution to one of lower price."""
    return best_move(task, numbers, 1) > 0 or best_move(task, numbers, -1) > 0


def best_move(task, numbers, change):
    """How much a common move by one of settings saves at most, by a least cut."""
    worth = {}
    for name, old in task.numbers.items():
        each = prices_of(task.prices, name)
        if each is not None:
            back = (numbers[name] - old) * change < 0
            worth[name] = each[1] if back and change > 0 else each[0] if back else -each[change < 0]
    pulled = {name: [] for name in worth}
    bound = set()
    for low, high, gap in task.system.rules:
        if number(low, numbers) + gap == number(high, numbers):
            one, two = (low, high) if change > 0 else (high, low)
            if one in pulled and two in pulled:
                pulled[one].append(two)
            elif one in pulled:
                bound.add(one)
    # What pulls something that cannot move cannot move either.
    while any(one not in bound and bound & set(pulled[one]) for one in pulled):
        bound |= {one for one in pulled if bound & set(pulled[one])}
    free = [name for name in worth if name not in bound]
    gains = {name: worth[name] for name in free if worth[name] > 0}
    costs = {name: -worth[name] for name in free if worth[name] < 0}
    return sum(gains.values()) - greatest_flow(gains, costs, pulled)


def greatest_flow(gains, costs, pulled):
    """How much flows from gains to costs along pulls, with no limit in between."""
    gains, costs = dict(gains), dict(costs)
    sent = {}
    flow = 0
    while True:
        before = {name: None for name in gains if gains[name] > 0}
        waiting = list(before)
        for name in waiting:
            if costs.get(name, 0) > 0:
                break
            nearby = pulled[name] + [other for other in pulled if sent.get((other, name), 0) > 0]
            for other in nearby:
                if other not in before:
                    before[other] = name
                    waiting.append(other)
        else:
            return flow
        way = [name]
        while before[way[-1]] is not None:
            way.append(before[way[-1]])
        way.reverse()
        amount = min(gains[way[0]], costs[way[-1]])
        for one, two in zip(way, way[1:]):
            if two not in pulled[one]:
                amount = min(amount, sent[two, one])
        for one, two in zip(way, way[1:]):
            if two in pulled[one]:
                sent[one, two] = sent.get((one, two), 0) + amount
            else:
                sent[two, one] -= amount
        gains[way[0]] -= amount
        costs[way[-1]] -= amount
        flow += amount


def least_price_of_a_row(gaps, old, costs):
    """The least price if each setting lies a gap above the one before, by all heights that old numbers give."""
    shifts = list(itertools.accumulate(gaps, initial=0))
    level = [worth - shift for worth, shift in zip(old, shifts)]
    heights = sorted(set(level))
    best = [0] * len(heights)
    for worth, (up, down) in zip(level, costs):
        paid = [max(height - worth, 0) * up + max(worth - height, 0) * down for height in heights]
        best = [least + each for least, each in zip(itertools.accumulate(best, min), paid)]
    return min(best)


def shortfall(rule, numbers):
    low, high, gap = rule
    return number(low, numbers) + gap - number(high, numbers)


def is_amounts(task, thing):
    """Whether any object is amounts, by a walk over the rules."""
    rules = task.system.rules
    if type(thing) is not list or len(thing) != len(rules):
        return False
    if any(type(amount) is not int or amount < 0 or len(str(amount)) > 12 for amount in thing):
        return False
    surplus = {each: 0 for each in things_of(task.system)}
    for (low, high, _), amount in zip(rules, thing):
        surplus[high] += amount
        surplus[low] -= amount
    for name in task.system.names:
        each = prices_of(task.prices, name)
        if each is not None and not -each[1] <= surplus[name] <= each[0]:
            return False
    return True


def total_of_amounts(task, amounts):
    whole = 0
    for at, rule in enumerate(task.system.rules):
        whole += amounts[at] * shortfall(rule, task.numbers)
    return whole


def all_moves(system):
    """All moves of a system: all sets of settings, up and down."""
    names = system.names
    for many in range(1, len(names) + 1):
        for chosen in itertools.combinations(names, many):
            yield (chosen, 1)
            yield (chosen, -1)


def better_moves(task, numbers):
    """All better moves for a solution, by trying all sets of settings."""
    whole = price(task, numbers)
    found = []
    for names, change in all_moves(task.system):
        after = {name: worth + change * (name in names) for name, worth in numbers.items()}
        if admitted(task.system, after) and price(task, after) is not None and price(task, after) < whole:
            found.append((names, change))
    return found


def solutions_in_box(task, bound):
    return [numbers for numbers in admitted_in_box(task.system, bound) if price(task, numbers) is not None]
