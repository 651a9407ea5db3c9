"""Binds: chains between the ground and fixed settings that no solution can satisfy."""

from windowsteps.chains import greatest_totals, is_chain, total_of
from windowsteps.figures import number_of
from windowsteps.windows import chain, check_agreement


def bind(task):
    """Any bind of a task, or None."""
    system = task.system
    check_agreement(system)
    rules = system.rules
    anchors = task.anchors()
    for low in anchors:
        totals, _ = greatest_totals(rules, low)
        for high in anchors:
            if high in totals and totals[high] > _room(task, low, high):
                return chain(system, low, high)
    return None


def is_bind(task, thing):
    """Whether any object is a list of rules of the system that is a bind."""
    if not is_chain(task.system, thing):
        return False
    low, high = thing[0][0], thing[-1][1]
    anchors = task.anchors()
    if low == high or low not in anchors or high not in anchors:
        return False
    return total_of(thing) > _room(task, low, high)


def _room(task, low, high):
    """How far one thing lies above another one in the old numbers."""
    numbers = task.numbers
    return number_of(high, numbers) - number_of(low, numbers)
