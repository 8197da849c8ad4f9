"""Logs: what calls with their servers show about the line, which is unknown."""

from deskkeepers.errors import NotPossible


def last_of(served, crew):
    """Return the member of the crew that served last, or None if none of them has served."""
    for worker in reversed(served):
        if worker in crew:
            return worker
    return None


def first_bad(roster, log):
    """Return the index of the first entry with which the log is no longer possible, or None."""
    served = []
    for at, (desk, worker) in enumerate(log):
        if last_of(served, roster.crew(desk)) not in (None, worker):
            return at
        served.append(worker)
    return None


def _refuse_impossible(roster, log):
    """Raise NotPossible if the log is not possible."""
    at = first_bad(roster, log)
    if at is not None:
        raise NotPossible(at)


def facts(roster, log):
    """Return tuples (worker, other): the worker is ahead of the other one at the start."""
    _refuse_impossible(roster, log)
    served = []
    pairs = []
    for desk, worker in log:
        crew = roster.crew(desk)
        # This is so for at most one entry of each worker, so no pair comes twice.
        if last_of(served, crew) is None:
            pairs.extend([(worker, other) for other in crew if other != worker])
        served.append(worker)
    return sorted(pairs)


def servers(roster, log, desk):
    """Return the workers that can be the server of a call of the desk after the log, in ascending order."""
    _refuse_impossible(roster, log)
    crew = roster.crew(desk)
    last = last_of([worker for name, worker in log], crew)
    return crew if last is None else [last]
