"""Cheapest solutions of a task."""

from windowsteps.binds import bind
from windowsteps.chains import heights
from windowsteps.errors import NoSolution
from windowsteps.figures import shortfall_of
from windowsteps.flows import full_network
from windowsteps.windows import contradiction


def least_price(task):
    """The least price of a solution, or None if there is none."""
    if contradiction(task.system) is not None or bind(task) is not None:
        return None
    return _total(task, full_network(task))


def cheapest(task):
    """The least price, and any solution with this price."""
    if bind(task) is not None:
        raise NoSolution("a chain of rules between fixed numbers does not hold")
    network = full_network(task)
    return _total(task, network), _numbers(task, network)


def _total(task, network):
    old = task.numbers
    rules = task.system.rules
    amounts = network.amounts(len(rules))
    return sum([amount * shortfall_of(rule, old) for amount, rule in zip(amounts, rules)])


def _numbers(task, network):
    """Numbers that satisfy all arcs with room, which makes their price the total of the amounts."""
    # All things start level with the ground and are raised no further than the arcs demand, so
    # that these numbers leave the range only where all cheapest ones do.
    names = task.system.names
    found = heights([None, *names], network.open_arcs())
    return {name: found[name] for name in names}
