"""Repairs: walks from numbers that are not admitted to admitted ones."""

from windowsteps.cheapest import cheapest
from windowsteps.figures import check_admitted, check_numbers, shortfall_of
from windowsteps.sequences import sequence
from windowsteps.systems import System


def eased(system, numbers):
    """The system in which each rule that does not hold asks only for what the numbers give it."""
    check_numbers(system, numbers)
    return System(system.names, [_eased_rule(rule, numbers) for rule in system.rules])


def walk(system, old, new):
    """The sequence of the eased system that leads from any numbers to admitted ones."""
    check_numbers(system, old)
    check_numbers(system, new)
    check_admitted(system, new)
    return sequence(eased(system, old), old, new)


def repair(task):
    """The least price, and the walk from the old numbers to any cheapest solution."""
    price, numbers = cheapest(task)
    return (price, walk(task.system, task.numbers, numbers))


def _eased_rule(rule, numbers):
    low, high, gap = rule
    return (low, high, gap - max(0, shortfall_of(rule, numbers)))
