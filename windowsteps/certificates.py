"""Certificates: amounts for the rules of a task, whose total no price of a solution undercuts."""

from windowsteps.cheapest import check_solvable
from windowsteps.errors import InvalidAmounts
from windowsteps.flows import full_network, total_of_amounts
from windowsteps.kinds import is_integer_within

GREATEST_AMOUNT = 999999999999


def total(task, amounts):
    """The sum of each amount times the shortfall of its rule for the old numbers."""
    if not _are_amounts(task, amounts):
        raise InvalidAmounts("amounts must give each rule an integer, within the prices of the settings")
    return total_of_amounts(task, amounts)


def certificate(task):
    """Any amounts whose total is the least price."""
    check_solvable(task)
    return full_network(task).amounts(len(task.system.rules))


def check_certificate(task, thing, bar):
    """Whether any object is amounts whose total is at least the bar."""
    return _are_amounts(task, thing) and total_of_amounts(task, thing) >= bar


def _are_amounts(task, thing):
    rules = task.system.rules
    if not isinstance(thing, list) or len(thing) != len(rules):
        return False
    if not all([is_integer_within(amount, 0, GREATEST_AMOUNT) for amount in thing]):
        return False
    loose = [name for name in task.system.names if not task.prices.is_fixed(name)]
    return all([_is_within_prices(task, name, _surplus(rules, thing, name)) for name in loose])


def _surplus(rules, amounts, name):
    """How much the amounts that push a setting upwards exceed those that push it downwards."""
    upwards = sum([amount for (_, high, _), amount in zip(rules, amounts) if high == name])
    downwards = sum([amount for (low, _, _), amount in zip(rules, amounts) if low == name])
    return upwards - downwards


def _is_within_prices(task, name, surplus):
    raising, lowering = task.prices.pair_of(name)
    return -lowering <= surplus <= raising
