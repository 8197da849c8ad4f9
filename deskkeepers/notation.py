"""Notation: rosters and deeds as texts, there and back."""

from deskkeepers.deeds import MOST_DEEDS, read_deed, show_deed, show_names
from deskkeepers.errors import BadDesk, NoText, Wrong
from deskkeepers.rosters import Roster


def show_roster(roster):
    """Return the text of the roster."""
    lines = [f"desk {desk} {show_names(roster.crew(desk))}" for desk in roster.desks()]
    return "\n".join([f"workers {show_names(roster.workers())}"] + lines)


def show_deeds(deeds):
    """Return the text of the list of deeds."""
    return "\n".join([show_deed(deed) for deed in deeds])


def _desk_of(line):
    """Return the (name, crew) that the line writes, or None; the words need not be names."""
    words = line.split(" ")
    return (words[1], words[2:]) if words[0] == "desk" and len(words) > 1 else None


def read_roster(text):
    """Return the Roster that the text writes."""
    if not isinstance(text, str):
        raise NoText()
    lines = text.split("\n")
    try:
        roster = Roster(lines[0].split(" ")[1:], [_desk_of(line) for line in lines[1:]])
    except (Wrong, BadDesk):
        raise NoText() from None
    # Any names may stand in the text, but it is right only if they stand as they would be shown.
    if show_roster(roster) != text:
        raise NoText()
    return roster


def read_deeds(text):
    """Return the list of deeds that the text writes."""
    if not isinstance(text, str):
        raise NoText()
    lines = [] if text == "" else text.split("\n")
    deeds = [read_deed(line) for line in lines]
    if len(deeds) > MOST_DEEDS or None in deeds:
        raise NoText()
    return deeds
