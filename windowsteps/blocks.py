"""Blocks: settings that can only move together."""

from windowsteps.chains import greatest_totals
from windowsteps.errors import UnknownSetting
from windowsteps.windows import check_agreement


def blocks(system):
    """The ascending list of all blocks, each the ascending list of its names."""
    gaps = _tightest_gaps(system)
    loose = [name for name in system.names if not _move_together(gaps, None, name)]
    found = []
    for name in loose:
        block = [other for other in loose if _move_together(gaps, name, other)]
        if block[0] == name:
            found.append(block)
    return found


def grounded(system):
    """The ascending list of the settings that cannot move."""
    gaps = _tightest_gaps(system)
    return [name for name in system.names if _move_together(gaps, None, name)]


def block_of(system, name):
    """The block of a setting, or None if it is grounded."""
    if not system.has_setting(name):
        raise UnknownSetting("this is not a setting of the system")
    for block in blocks(system):
        if name in block:
            return block
    return None


def _tightest_gaps(system):
    """For each thing the tightest gaps from it to all that chains lead to."""
    check_agreement(system)
    rules = system.rules
    gaps = {}
    for thing in [None, *system.names]:
        gaps[thing], _ = greatest_totals(rules, thing)
    return gaps


def _move_together(gaps, one, two):
    if two not in gaps[one] or one not in gaps[two]:
        return False
    return gaps[one][two] + gaps[two][one] == 0
