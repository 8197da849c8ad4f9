"""Deeds: what is done to a pool, as tuples and as lines of text."""

from deskkeepers.kinds import are_names, is_name

MOST_DEEDS = 200
NONE = "-"


def is_deed(thing):
    """Return whether the thing is a deed."""
    if not isinstance(thing, tuple) or not 2 <= len(thing) <= 3:
        return False
    if not is_name(thing[0]) or not is_name(thing[1]):
        return False
    if len(thing) == 2:
        return thing[0] in ("call", "retire")
    return thing[0] == "hire" and are_names(thing[2])


def copy_of(deed):
    """Return the deed with a list of its own."""
    return deed if len(deed) == 2 else (deed[0], deed[1], list(deed[2]))


def show_names(names):
    """Return the text of a list of names."""
    return NONE if len(names) == 0 else " ".join(names)


def read_names(words):
    """Return the list of different names that the words, at least one, write, or None."""
    if words == [NONE]:
        return []
    return words if are_names(words) else None


def show_deed(deed):
    """Return the text of the deed."""
    return " ".join(deed) if len(deed) == 2 else f"{deed[0]} {deed[1]} {show_names(deed[2])}"


def read_deed(text):
    """Return the deed that the text writes, or None."""
    words = text.split(" ")
    thing = tuple(words)
    if words[0] == "hire" and len(words) > 2:
        thing = ("hire", words[1], read_names(words[2:]))
    return thing if is_deed(thing) else None
