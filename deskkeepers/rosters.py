"""Rosters: workers, and desks with their crews."""

from deskkeepers.errors import BadDesk, Known, NoDesk, NoWorker, TooMany, Wrong
from deskkeepers.kinds import are_names, is_name

MOST_WORKERS = 40
MOST_DESKS = 60


def _is_desk(workers, item):
    """Return whether the item is a tuple of a name and a crew of the workers."""
    if not isinstance(item, tuple) or len(item) != 2:
        return False
    name, crew = item
    if not is_name(name) or not are_names(crew) or len(crew) == 0:
        return False
    return all([worker in workers for worker in crew])


def _first_bad_desk(workers, desks):
    """Return the index of the first item that is no desk or has an earlier name, or None."""
    names = []
    for at, item in enumerate(desks):
        if not _is_desk(workers, item) or item[0] in names:
            return at
        names.append(item[0])
    return None


def _refuse_shared(names, others):
    """Raise Known for the first of the names that is among the others too."""
    for name in names:
        if name in others:
            raise Known(name)


def _refuse_more(names, limit):
    """Raise TooMany if there are more names than the limit."""
    if len(names) > limit:
        raise TooMany(limit)


def _parts(roster):
    """Return the desks with their crews, as a Roster is given them."""
    return [(desk, roster.crew(desk)) for desk in roster.desks()]


class Roster:
    """Workers and desks, each desk with its crew. It never changes."""

    def __init__(self, workers, desks):
        if not are_names(workers) or not 1 <= len(workers) <= MOST_WORKERS:
            raise Wrong(0)
        if not isinstance(desks, list) or len(desks) > MOST_DESKS:
            raise Wrong(1)
        at = _first_bad_desk(workers, desks)
        if at is not None:
            raise BadDesk(at)
        self._workers = sorted(workers)
        self._crews = {name: sorted(crew) for name, crew in desks}

    def __eq__(self, other):
        return isinstance(other, Roster) and self._workers == other._workers and self._crews == other._crews

    def __len__(self):
        return len(self._crews)

    def workers(self):
        """Return the names of the workers in ascending order."""
        return list(self._workers)

    def desks(self):
        """Return the names of the desks in ascending order."""
        return sorted(self._crews)

    def crew(self, desk):
        """Return the crew of the desk in ascending order."""
        if desk not in self._crews:
            raise NoDesk(desk)
        return list(self._crews[desk])

    def desks_of(self, worker):
        """Return the desks whose crews contain the worker, in ascending order."""
        if worker not in self._workers:
            raise NoWorker(worker)
        return [desk for desk in self.desks() if worker in self._crews[desk]]

    def cut(self, workers):
        """Return the Roster of these workers and of the desks that they can serve."""
        desks = []
        for desk, crew in _parts(self):
            rest = [worker for worker in crew if worker in workers]
            if len(rest) > 0:
                desks.append((desk, rest))
        return Roster(workers, desks)

    def beside(self, other):
        """Return the Roster with the workers and the desks of this one and the other."""
        _refuse_shared(self.workers(), other.workers())
        _refuse_shared(self.desks(), other.desks())
        workers = self.workers() + other.workers()
        desks = _parts(self) + _parts(other)
        _refuse_more(workers, MOST_WORKERS)
        _refuse_more(desks, MOST_DESKS)
        return Roster(workers, desks)
