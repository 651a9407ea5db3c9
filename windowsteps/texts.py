"""The text of a system, written and read."""

from windowsteps.errors import ParseError
from windowsteps.figures import is_number
from windowsteps.kinds import is_name
from windowsteps.systems import System, rank

HEADING = "settings"
GROUND = "-"
LONGEST_INTEGER = 6


def format_system(system):
    """The text of a system: a line of its names, then a line for each rule."""
    heading = " ".join([HEADING, *system.names])
    return "\n".join([heading, *[format_rule(rule) for rule in system.rules]])


def parse_system(text):
    """The system with this text."""
    if not isinstance(text, str):
        raise ParseError(0)
    heading, *lines = text.split("\n")
    names = _parsed_names(heading)
    if names is None:
        raise ParseError(0)
    rules = []
    for at, line in enumerate(lines, start=1):
        rule = _parsed_rule(line, names)
        if rule is None or not _may_follow(rules, rule):
            raise ParseError(at)
        rules.append(rule)
    return System(names, rules)


def format_rule(rule):
    """The line of a rule."""
    low, high, gap = rule
    return f"{low or GROUND} {high or GROUND} {gap}"


def parse_thing(word):
    """The setting or the ground that a word stands for; any other word stays as it is."""
    return None if word == GROUND else word


def parse_integer(word):
    """The integer from -99999 to 99999 that a word writes, or None."""
    # The length comes first: Python refuses to read integers of thousands of digits.
    if len(word) > LONGEST_INTEGER or not word.isascii() or not word.removeprefix("-").isdigit():
        return None
    integer = int(word)
    # Written again, an integer with a leading zero or as "-0" looks otherwise.
    return integer if is_number(integer) and str(integer) == word else None


def _parsed_names(heading):
    first, *names = heading.split(" ")
    if first != HEADING or not all([is_name(name) for name in names]):
        return None
    if names != sorted(set(names)):
        return None
    return names


def _parsed_rule(line, names):
    words = line.split(" ")
    if len(words) != 3:
        return None
    low, high = [parse_thing(word) for word in words[:2]]
    rule = (low, high, parse_integer(words[2]))
    ends = [None, *names]
    if not System.is_rule(rule) or low not in ends or high not in ends:
        return None
    return rule


def _may_follow(rules, rule):
    return not rules or rank(rules[-1]) < rank(rule)
