"""Sequences of steps between admitted numbers, on which no setting moves away from its goal."""

from windowsteps.blocks import blocks
from windowsteps.figures import check_admitted, check_numbers, shortfall_of
from windowsteps.moves import holds, is_step, moved, named_blocks


def least_steps(system, old, new):
    """The least number of steps of a sequence."""
    _check_both_admitted(system, old, new)
    return sum([abs(new[block[0]] - old[block[0]]) for block in blocks(system)])


def sequence(system, old, new):
    """A sequence of the least length, each step the first one that is safe and leads towards the goal."""
    return [step for step, _ in steps_with_moments(system, old, new)]


def is_sequence(system, old, new, thing):
    """Whether any object is a sequence."""
    _check_both_admitted(system, old, new)
    if not isinstance(thing, list):
        return False
    named = named_blocks(system)
    numbers = old
    for step in thing:
        if not is_step(named, step):
            return False
        name, change = step
        numbers = moved(system, numbers, named[name], change)
        if not holds(system, numbers):
            return False
    return numbers == new


def moments(system, old, new):
    """Yield the numbers after each step of sequence."""
    for _, numbers in steps_with_moments(system, old, new):
        yield numbers


def steps_with_moments(system, old, new):
    """Yield each step of sequence with the numbers after it."""
    _check_both_admitted(system, old, new)
    ways = [_way(system, block, old, new) for block in blocks(system)]
    numbers = old
    way = _first_open(ways, numbers, new)
    while way is not None:
        block, change, _ = way
        numbers = moved(system, numbers, block, change)
        yield (block[0], change), dict(numbers)
        way = _first_open(ways, numbers, new)


def _check_both_admitted(system, old, new):
    check_numbers(system, old)
    check_numbers(system, new)
    check_admitted(system, old)
    check_admitted(system, new)


def _way(system, block, old, new):
    """A block, the change that leads it towards its goal, and the rules that this may break."""
    # All rules hold before a step, so only rules that it tightens can be broken: those between
    # the block and something outside of it, with the block at the low end when it rises.
    change = 1 if new[block[0]] > old[block[0]] else -1
    near, far = (0, 1) if change == 1 else (1, 0)
    tightened = [rule for rule in system.rules if rule[near] in block and rule[far] not in block]
    return block, change, tightened


def _first_open(ways, numbers, new):
    """The first way that is not at its goal and has no rule without play, or None at the end."""
    for way in ways:
        block, _, tightened = way
        if numbers[block[0]] != new[block[0]] and all([shortfall_of(rule, numbers) < 0 for rule in tightened]):
            return way
    return None
