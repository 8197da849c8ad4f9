"""Scripts: where any number of repetitions of the same calls leads."""

from deskkeepers.errors import TooMany
from deskkeepers.kinds import is_integer
from deskkeepers.lines import follow

MOST_REPETITIONS = 1000


def _lines_and_lead(roster, line, script, most):
    """Return the lines after 0, 1, .. repetitions, and the index of the one that comes after them again.

    The index is None if the lines after 0 to most repetitions are all different.
    """
    lines = [list(line)]
    index_of = {tuple(line): 0}
    while len(lines) <= most:
        _, now = follow(roster, lines[-1], script)
        if tuple(now) in index_of:
            return lines, index_of[tuple(now)]
        index_of[tuple(now)] = len(lines)
        lines.append(now)
    return lines, None


def period(roster, line, script, *, limit=1000):
    """Return the least (lead, length): from lead repetitions on, the lines come again after length more."""
    lines, lead = _lines_and_lead(roster, line, script, limit)
    if lead is None:
        raise TooMany(limit)
    return lead, len(lines) - lead


def after(roster, line, script, times, *, limit=1000):
    """Return the line after as many repetitions as times."""
    lines, lead = _lines_and_lead(roster, line, script, min(times, limit))
    if times < len(lines):
        return lines[times]
    if lead is None:
        raise TooMany(limit)
    return lines[lead + (times - lead) % (len(lines) - lead)]


def survivors(roster, line, script, *, limit=1000):
    """Return the workers that serve in every repetition, in ascending order."""
    lines, lead = _lines_and_lead(roster, line, script, limit)
    if lead is None:
        raise TooMany(limit)
    # Who does not serve in one repetition never serves later. The last one comes again for ever.
    servers, _ = follow(roster, lines[-1], script)
    return sorted(set(servers))


def is_period(roster, line, script, thing):
    """Return whether the thing is the tuple that period returns."""
    if not isinstance(thing, tuple) or len(thing) != 2 or not all([is_integer(item) for item in thing]):
        return False
    lines, lead = _lines_and_lead(roster, line, script, MOST_REPETITIONS)
    return lead is not None and thing == (lead, len(lines) - lead)
