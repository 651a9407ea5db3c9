"""Cheapest solutions of a task."""

from windowsteps.binds import bind
from windowsteps.chains import heights
from windowsteps.errors import NoSolution
from windowsteps.figures import GREATEST_NUMBER, shortfall_of
from windowsteps.flows import full_network
from windowsteps.windows import contradiction


def least_price(task):
    """The least price of a solution, or None if there is none."""
    if contradiction(task.system) is not None or bind(task) is not None:
        return None
    return _total(task, full_network(task))


def cheapest(task):
    """The least price, and any solution with this price."""
    if bind(task) is not None:
        raise NoSolution("a chain of rules between fixed numbers does not hold")
    network = full_network(task)
    return _total(task, network), _numbers(task, network)


def _total(task, network):
    old = task.numbers
    rules = task.system.rules
    amounts = network.amounts(len(rules))
    return sum([amount * shortfall_of(rule, old) for amount, rule in zip(amounts, rules)])


def _numbers(task, network):
    """Numbers that satisfy all arcs with room, which makes their price the total of the amounts."""
    names = task.system.names
    things = [None, *names]
    arcs = network.open_arcs()
    # Some cheapest numbers may lie outside of the range although others do not.
    above = [(None, name, -GREATEST_NUMBER) for name in names]
    below = [(name, None, -GREATEST_NUMBER) for name in names]
    found = heights(things, [*arcs, *above, *below])
    if found is None:
        found = heights(things, arcs)
    return {name: found[name] for name in names}
