"""Contradictions, tightest gaps, and the windows in which settings can lie."""

from windowsteps.chains import greatest_totals, is_chain, rising_ring, total_of, way_to
from windowsteps.errors import Contradiction, UnknownSetting


def contradiction(system):
    """Any ring with a total above 0, or None."""
    rules = system.rules
    ring = rising_ring([None, *system.names], rules)
    if ring is None:
        return None
    return [rules[at] for at in ring]


def is_contradiction(system, thing):
    """Whether any object is a list of rules of the system that is a contradiction."""
    return is_chain(system, thing) and thing[0][0] == thing[-1][1] and total_of(thing) > 0


def tightest(system, low, high):
    """The tightest gap from one thing to another one, or None if there is no chain."""
    _check_things(system, low, high)
    check_agreement(system)
    totals, _ = greatest_totals(system.rules, low)
    return totals.get(high)


def chain(system, low, high):
    """Any chain from one thing to another one with the tightest gap as its total, or None."""
    _check_things(system, low, high)
    check_agreement(system)
    rules = system.rules
    totals, last = greatest_totals(rules, low)
    if high not in totals:
        return None
    return [rules[at] for at in way_to(rules, last, high)]


def window(system, name):
    """The least and the greatest number of a setting in admitted numbers; None for no bound."""
    if not system.has_setting(name):
        raise UnknownSetting("this is not a setting of the system")
    above = tightest(system, None, name)
    below = tightest(system, name, None)
    return (above, None if below is None else -below)


def check_agreement(system):
    """Raise Contradiction if the rules cannot all hold."""
    if contradiction(system) is not None:
        raise Contradiction("the rules of a ring contradict each other")


def _check_things(system, *things):
    if not all([thing is None or system.has_setting(thing) for thing in things]):
        raise UnknownSetting("this is neither a setting of the system nor the ground")
