"""Checks of kinds of values that every part of the program shares."""

LONGEST_NAME = 8


def is_integer(thing):
    """Whether any object is an integer."""
    # Python counts True and False as ints; the document does not.
    return isinstance(thing, int) and not isinstance(thing, bool)


def is_integer_within(thing, least, greatest):
    """Whether any object is an integer from the least to the greatest one."""
    return is_integer(thing) and least <= thing <= greatest


def is_name(thing):
    """Whether any object is a name: one to eight letters from a to z."""
    if not isinstance(thing, str) or not 1 <= len(thing) <= LONGEST_NAME:
        return False
    return all(["a" <= letter <= "z" for letter in thing])
