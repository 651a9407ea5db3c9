"""Steps: a block moves up or down by one."""

from windowsteps.blocks import blocks
from windowsteps.errors import InvalidStep
from windowsteps.figures import are_numbers, breach_of, check_numbers
from windowsteps.kinds import is_integer, is_name


def after_step(system, numbers, step):
    """The numbers after a step."""
    check_numbers(system, numbers)
    return stepped(system, numbers, step)


def is_safe(system, numbers, step):
    """Whether any object is a step after which the numbers are admitted."""
    check_numbers(system, numbers)
    named = named_blocks(system)
    if not is_step(named, step):
        return False
    name, change = step
    return holds(system, moved(system, numbers, named[name], change))


def safe_steps(system, numbers):
    """Yield all steps after which the numbers are admitted, in ascending order."""
    check_numbers(system, numbers)
    for block in blocks(system):
        for change in (-1, 1):
            if holds(system, moved(system, numbers, block, change)):
                yield (block[0], change)


def stepped(system, numbers, step):
    """The numbers after a step, for numbers that are known to be valid."""
    named = named_blocks(system)
    if not is_step(named, step):
        raise InvalidStep("a step must be a tuple of the name of a block and 1 or -1")
    name, change = step
    return moved(system, numbers, named[name], change)


def named_blocks(system):
    """The blocks by their names."""
    return {block[0]: block for block in blocks(system)}


def is_step(named, thing):
    """Whether any object is a step of one of the blocks."""
    if not isinstance(thing, tuple) or len(thing) != 2:
        return False
    name, change = thing
    return is_name(name) and name in named and is_change(change)


def is_change(thing):
    """Whether any object is 1 or -1."""
    return is_integer(thing) and thing in (-1, 1)


def moved(system, numbers, names, change):
    """The numbers with a change of those of some settings."""
    return {name: numbers[name] + (change if name in names else 0) for name in system.names}


def holds(system, moved_numbers):
    """Whether numbers after a step are admitted; those outside of the range are not."""
    return are_numbers(system, moved_numbers) and breach_of(system, moved_numbers) is None
