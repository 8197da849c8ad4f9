"""Tests of the kinds of values that the package is given."""

LETTERS = "abcdefghijklmnopqrstuvwxyz"
LONGEST_NAME = 8


def is_integer(thing):
    """Return whether the thing is an int that is not True or False."""
    return isinstance(thing, int) and not isinstance(thing, bool)


def is_name(thing):
    """Return whether the thing is a string of one to eight letters a to z."""
    if not isinstance(thing, str) or not 1 <= len(thing) <= LONGEST_NAME:
        return False
    return all([letter in LETTERS for letter in thing])


def are_names(thing):
    """Return whether the thing is a list of different names, perhaps empty."""
    if not isinstance(thing, list) or not all([is_name(item) for item in thing]):
        return False
    return len(set(thing)) == len(thing)
