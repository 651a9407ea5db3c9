"""Systems: settings, and rules between them and the ground."""

from windowsteps.errors import InvalidSystem, UnknownRule
from windowsteps.kinds import is_integer_within, is_name

GREATEST_GAP = 999


class System:
    """Settings and rules that never change; other rules make another system."""

    def __init__(self, names, rules):
        if not _are_different_names(names):
            raise InvalidSystem("the names must be a list of different names")
        if not _are_rules_between(rules, names):
            raise InvalidSystem("the rules must be a list of rules between the settings and the ground")
        self._names = sorted(names)
        self._rules = _ascending(rules)

    @property
    def names(self):
        """The ascending list of the names of the settings."""
        return list(self._names)

    @property
    def rules(self):
        """The ascending list of the different rules."""
        return list(self._rules)

    def with_rules(self, *rules):
        """The system with further rules."""
        return System(self._names, [*self._rules, *rules])

    def without(self, rule):
        """The system without a rule."""
        if not self.has_rule(rule):
            raise UnknownRule("this is not a rule of the system")
        return System(self._names, [kept for kept in self._rules if kept != rule])

    def has_setting(self, thing):
        """Whether any object is the name of a setting of this system."""
        return thing in self._names

    def has_rule(self, thing):
        """Whether any object is a rule of this system."""
        # Without the first test a gap of True would pass for a gap of 1.
        return System.is_rule(thing) and thing in self._rules

    def __eq__(self, other):
        return isinstance(other, System) and self._names == other._names and self._rules == other._rules

    @staticmethod
    def is_rule(thing):
        """Whether any object is a rule between any names and the ground."""
        if not isinstance(thing, tuple) or len(thing) != 3:
            return False
        low, high, gap = thing
        if not _is_end(low) or not _is_end(high) or low == high:
            return False
        return is_integer_within(gap, -GREATEST_GAP, GREATEST_GAP)


def _is_end(thing):
    return thing is None or is_name(thing)


def _are_different_names(things):
    if not isinstance(things, list) or not all([is_name(thing) for thing in things]):
        return False
    return len(set(things)) == len(things)


def _are_rules_between(things, names):
    if not isinstance(things, list) or not all([System.is_rule(thing) for thing in things]):
        return False
    ends = [None, *names]
    return all([low in ends and high in ends for low, high, _ in things])


def _ascending(rules):
    different = {rule: True for rule in rules}
    return sorted(different, key=rank)


def rank(rule):
    """What the ascending order of rules compares."""
    # Python does not compare None with strings; "" comes before every name, as the ground must.
    low, high, gap = rule
    return low or "", high or "", gap
