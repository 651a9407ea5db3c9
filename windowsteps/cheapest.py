"""Cheapest solutions of a task."""

from windowsteps.binds import bind
from windowsteps.errors import NoSolution
from windowsteps.flows import full_network, total_of_amounts
from windowsteps.windows import contradiction


def least_price(task):
    """The least price of a solution, or None if there is none."""
    if contradiction(task.system) is not None or bind(task) is not None:
        return None
    return _least_total(task, full_network(task))


def cheapest(task):
    """The least price, and any solution with this price."""
    check_solvable(task)
    network = full_network(task)
    return _least_total(task, network), network.levels(task.system.names)


def check_solvable(task):
    """Raise Contradiction or NoSolution if a task has no solution."""
    if bind(task) is not None:
        raise NoSolution("a chain of rules between fixed numbers does not hold")


def _least_total(task, network):
    return total_of_amounts(task, network.amounts(len(task.system.rules)))
