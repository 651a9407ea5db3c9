"""The text of a system, written and read."""

from windowsteps.errors import ParseError
from windowsteps.kinds import is_name
from windowsteps.systems import System, rank

HEADING = "settings"
GROUND = "-"
LONGEST_GAP = 4


def format_system(system):
    """The text of a system: a line of its names, then a line for each rule."""
    heading = " ".join([HEADING, *system.names])
    return "\n".join([heading, *[format_rule(rule) for rule in system.rules]])


def parse_system(text):
    """The system with this text."""
    if not isinstance(text, str):
        raise ParseError(0)
    heading, *lines = text.split("\n")
    names = _parsed_names(heading)
    if names is None:
        raise ParseError(0)
    rules = []
    for at, line in enumerate(lines, start=1):
        rule = _parsed_rule(line, names)
        if rule is None or not _may_follow(rules, rule):
            raise ParseError(at)
        rules.append(rule)
    return System(names, rules)


def format_rule(rule):
    """The line of a rule."""
    low, high, gap = rule
    return f"{low or GROUND} {high or GROUND} {gap}"


def _parsed_names(heading):
    first, *names = heading.split(" ")
    if first != HEADING or not all([is_name(name) for name in names]):
        return None
    if names != sorted(set(names)):
        return None
    return names


def _parsed_rule(line, names):
    words = line.split(" ")
    if len(words) != 3 or not _may_be_integer(words[2]):
        return None
    low, high = [None if word == GROUND else word for word in words[:2]]
    rule = (low, high, int(words[2]))
    ends = [None, *names]
    if not System.is_rule(rule) or low not in ends or high not in ends:
        return None
    # Written again, an integer with a leading zero or as "-0" looks otherwise.
    return rule if format_rule(rule) == line else None


def _may_be_integer(word):
    # The length comes first: Python refuses to read integers of thousands of digits.
    return len(word) <= LONGEST_GAP and word.isascii() and word.removeprefix("-").isdigit()


def _may_follow(rules, rule):
    return not rules or rank(rules[-1]) < rank(rule)
