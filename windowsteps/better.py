"""Better moves: sets of settings whose common move lowers the price of a solution."""

from windowsteps.errors import NotASolution
from windowsteps.figures import GREATEST_NUMBER, are_numbers
from windowsteps.flows import full_network
from windowsteps.moves import is_change, moved
from windowsteps.tasks import is_solution, price_of


def better_move(task, numbers):
    """Any better move for a solution, or None if there is none."""
    _check_solution(task, numbers)
    names = task.system.names
    for change in (1, -1):
        # Among all numbers that a move by this change leads to, these have the least price.
        near = full_network(task, _bounds(numbers, change)).levels(names)
        if price_of(task, near) < price_of(task, numbers):
            return (tuple([name for name in names if near[name] != numbers[name]]), change)
    return None


def is_better(task, numbers, thing):
    """Whether any object is a better move for a solution."""
    _check_solution(task, numbers)
    if not _is_move(task.system, thing):
        return False
    names, change = thing
    after = moved(task.system, numbers, names, change)
    if not are_numbers(task.system, after) or not is_solution(task, after):
        return False
    return price_of(task, after) < price_of(task, numbers)


def _check_solution(task, numbers):
    if not is_solution(task, numbers):
        raise NotASolution("a rule does not hold, or a fixed setting has another number")


def _bounds(numbers, change):
    """Arcs that leave each setting its number and the one after a change, within the range."""
    bounds = []
    for name in numbers:
        least = max(min(numbers[name], numbers[name] + change), -GREATEST_NUMBER)
        most = min(max(numbers[name], numbers[name] + change), GREATEST_NUMBER)
        bounds.extend([(None, name, least), (name, None, -most)])
    return bounds


def _is_move(system, thing):
    if not isinstance(thing, tuple) or len(thing) != 2:
        return False
    names, change = thing
    if not isinstance(names, tuple) or not names or not all([system.has_setting(name) for name in names]):
        return False
    return list(names) == sorted(set(names)) and is_change(change)
