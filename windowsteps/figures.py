"""Numbers of the settings of a system, and whether its rules hold for them."""

from windowsteps.errors import InvalidNumbers, NotAdmitted, UnknownRule
from windowsteps.kinds import is_integer_within

GREATEST_NUMBER = 99999


def shortfall(system, numbers, rule):
    """How much the high of a rule of the system is missing; at most 0 if the rule holds."""
    check_numbers(system, numbers)
    if not system.has_rule(rule):
        raise UnknownRule("this is not a rule of the system")
    return shortfall_of(rule, numbers)


def first_breach(system, numbers):
    """The first rule, in ascending order, that does not hold, or None."""
    check_numbers(system, numbers)
    return breach_of(system, numbers)


def is_admitted(system, numbers):
    """Whether all rules hold."""
    return first_breach(system, numbers) is None


def smaller(system, one, two):
    """The numbers that have, for each setting, the smaller one of two numbers."""
    check_numbers(system, one)
    check_numbers(system, two)
    return {name: min(one[name], two[name]) for name in system.names}


def greater(system, one, two):
    """The numbers that have, for each setting, the greater one of two numbers."""
    check_numbers(system, one)
    check_numbers(system, two)
    return {name: max(one[name], two[name]) for name in system.names}


def check_numbers(system, thing):
    """Raise InvalidNumbers for any object that is not numbers of the system."""
    if not are_numbers(system, thing):
        raise InvalidNumbers("numbers must give each setting an integer from -99999 to 99999")


def are_numbers(system, thing):
    """Whether any object is numbers of the system."""
    names = system.names
    if not isinstance(thing, dict) or len(thing) != len(names):
        return False
    return all([name in thing and is_number(thing[name]) for name in names])


def breach_of(system, numbers):
    """The first rule that does not hold, or None, for numbers that are known to be valid."""
    for rule in system.rules:
        if shortfall_of(rule, numbers) > 0:
            return rule
    return None


def check_admitted(system, numbers):
    """Raise NotAdmitted with the first breach of numbers that are known to be valid."""
    breach = breach_of(system, numbers)
    if breach is not None:
        raise NotAdmitted(breach)


def shortfall_of(rule, numbers):
    """The shortfall of a rule, for numbers that are known to be valid."""
    low, high, gap = rule
    return number_of(low, numbers) + gap - number_of(high, numbers)


def number_of(thing, numbers):
    """The number of a setting, or of the ground, which is always 0."""
    if thing is None:
        return 0
    return numbers[thing]


def is_number(thing):
    """Whether any object is an integer that a setting can have."""
    return is_integer_within(thing, -GREATEST_NUMBER, GREATEST_NUMBER)
