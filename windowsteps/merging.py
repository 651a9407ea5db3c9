"""Merging the changes that two sides made to the numbers of a base."""

from windowsteps.figures import check_numbers
from windowsteps.tasks import Task


def merged(system, base, one, two):
    """The numbers in which the changes of both sides are merged."""
    _check_all(system, base, one, two)
    return {name: _merged_number(base[name], one[name], two[name]) for name in system.names}


def conflicts(system, base, one, two):
    """The ascending list of the settings that both sides changed, to different numbers."""
    _check_all(system, base, one, two)
    return [name for name in system.names if _is_conflict(base[name], one[name], two[name])]


def merge_task(system, base, one, two, prices):
    """The task with the merged numbers as its old numbers."""
    return Task(system, merged(system, base, one, two), prices)


def _check_all(system, base, one, two):
    check_numbers(system, base)
    check_numbers(system, one)
    check_numbers(system, two)


def _is_conflict(base, one, two):
    return one != two and one != base and two != base


def _merged_number(base, one, two):
    if _is_conflict(base, one, two):
        return min(max(base, min(one, two)), max(one, two))
    return two if one == base else one
