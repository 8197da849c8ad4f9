"""Comparing: what retirements show about the lines behind the keepers, and how deep a worker stands."""


def _ordered(roster, line, desk):
    """Return the crew of the desk in the order of the line."""
    crew = roster.crew(desk)
    return [worker for worker in line if worker in crew]


def heads(roster, line, many):
    """Return (desk, as many of its crew as are first in the line) for each desk."""
    return [(desk, _ordered(roster, line, desk)[:many]) for desk in roster.desks()]


def _first_difference(workers, others):
    """Return the first index at which the two lists of the same crew differ, or None."""
    for at, (worker, other) in enumerate(zip(workers, others)):
        if worker != other:
            return at
    return None


def compare(roster, line, other, retirements):
    """Return ("alike",), or ("apart", retired, desk) with the fewest who must retire to show a difference."""
    found = []
    for desk in roster.desks():
        at = _first_difference(_ordered(roster, line, desk), _ordered(roster, other, desk))
        if at is not None and at <= retirements:
            found.append((at, desk))
    if len(found) == 0:
        return ("alike",)
    many, desk = min(found)
    return "apart", _ordered(roster, line, desk)[:many], desk


def _ahead(roster, line, worker, desk):
    """Return the members of the desk's crew that are ahead of the worker, one of them, in the order of the line."""
    crew = _ordered(roster, line, desk)
    return crew[:crew.index(worker)]


def depth(roster, line, worker):
    """Return the least number of crew members ahead of the worker at a desk, or None if it has no desk."""
    return min([len(_ahead(roster, line, worker, desk)) for desk in roster.desks_of(worker)], default=None)


def nearest(roster, line, worker):
    """Return the fewest who must retire before the worker keeps a desk, and the least such desk, or None."""
    found = [(len(_ahead(roster, line, worker, desk)), desk) for desk in roster.desks_of(worker)]
    if len(found) == 0:
        return None
    many, desk = min(found)
    return _ahead(roster, line, worker, desk), desk
