"""Floors: the line and the crews of a pool between two deeds, and what a deed does to them."""

from deskkeepers.errors import Closed, Known, NoDesk, NoWorker, TooMany
from deskkeepers.lines import first_of
from deskkeepers.rosters import MOST_WORKERS


class Floor:
    """The workers in their line, and a dict of the crews of the desks, some perhaps empty. It never changes."""

    def __init__(self, order, teams):
        self.order = order
        self.teams = teams

    def after(self, deed):
        """Return the server, or None if the deed is no call, and the Floor after the deed."""
        if deed[0] == "call":
            return self._after_call(deed[1])
        if deed[0] == "retire":
            return None, self._after_retirement(deed[1])
        return None, self._after_hire(deed[1], deed[2])

    def _after_call(self, desk):
        """Return the server of a call of the desk, and the Floor after it."""
        if desk not in self.teams:
            raise NoDesk(desk)
        if len(self.teams[desk]) == 0:
            raise Closed(desk)
        server = first_of(self.teams[desk], self.order)
        return server, Floor([server] + [worker for worker in self.order if worker != server], self.teams)

    def _after_retirement(self, worker):
        """Return the Floor without the worker."""
        if worker not in self.order:
            raise NoWorker(worker)
        teams = {desk: [other for other in crew if other != worker] for desk, crew in self.teams.items()}
        return Floor([other for other in self.order if other != worker], teams)

    def _after_hire(self, worker, desks):
        """Return the Floor with the worker at the end of the line and at the desks."""
        if worker in self.order:
            raise Known(worker)
        for desk in desks:
            if desk not in self.teams:
                raise NoDesk(desk)
        if len(self.order) >= MOST_WORKERS:
            raise TooMany(MOST_WORKERS)
        teams = {desk: crew + [worker] if desk in desks else crew for desk, crew in self.teams.items()}
        return Floor(self.order + [worker], teams)
