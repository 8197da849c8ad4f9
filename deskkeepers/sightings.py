"""Sightings: what calls show if only some possible servers of each of them are known."""

from deskkeepers.counting import MOST_COUNTED, line_many
from deskkeepers.errors import TooMany
from deskkeepers.logs import last_of


def _next_servers(crew, workers, history):
    """Return those of the workers that can serve a desk with the crew after the history, in ascending order."""
    last = last_of(history, crew)
    return sorted([worker for worker in workers if last in (None, worker)])


def histories(roster, seen, *, limit=400):
    """Return all histories of the sightings, in ascending order."""
    found = [[]]
    for desk, workers in seen:
        crew = roster.crew(desk)
        # Those that were in ascending order stay so, each with its next servers in ascending order.
        found = [history + [server] for history in found for server in _next_servers(crew, workers, history)]
        if len(found) > limit:
            raise TooMany(limit)
    return found


def starts_many(roster, seen, *, limit=400):
    """Return the number of lines from which the calls can be served as seen."""
    if len(roster.workers()) > MOST_COUNTED:
        raise TooMany(MOST_COUNTED)
    desks = [desk for desk, workers in seen]
    # From each line the calls have the servers of one history alone, so no line is counted twice.
    return sum([line_many(roster, list(zip(desks, history))) for history in histories(roster, seen, limit=limit)])
