"""Pools: deeds that are done to workers and desks, put in late, taken out and done again."""

from deskkeepers.deeds import MOST_DEEDS, copy_of, is_deed
from deskkeepers.errors import DeskError, NoDesk, Nothing, Stopped, TooMany, Wrong
from deskkeepers.floors import Floor
from deskkeepers.kinds import are_names, is_integer, is_name
from deskkeepers.lines import first_of, is_line
from deskkeepers.rosters import Roster


class Pool:
    """Workers in a line, desks with their crews, and the log of the deeds done so far."""

    def __init__(self, roster, line):
        if not isinstance(roster, Roster):
            raise Wrong(0)
        if not is_line(roster, line):
            raise Wrong(1)
        self._first_roster = roster
        self._log = []
        self._undone = []
        # For each deed in the log its server or None, and the floors before the first and after each one.
        self._servers = []
        self._floors = [Floor(list(line), {desk: roster.crew(desk) for desk in roster.desks()})]

    def __len__(self):
        return len(self._log)

    def _refuse_full(self):
        """Raise TooMany if the log has no room for one more deed."""
        if len(self._log) >= MOST_DEEDS:
            raise TooMany(MOST_DEEDS)

    def _keep(self, deed, server, floor):
        """Put a deed that was done at the end of the log."""
        self._log.append(deed)
        self._servers.append(server)
        self._floors.append(floor)

    def _do(self, deed):
        """Do a new deed and return its server, or None if it is no call."""
        server, floor = self._floors[-1].after(deed)
        self._refuse_full()
        self._keep(deed, server, floor)
        self._undone = []
        return server

    def call(self, desk):
        """Call the desk and return the server."""
        if not is_name(desk):
            raise Wrong(0)
        return self._do(("call", desk))

    def retire(self, worker):
        """Take the worker out of the line and out of all crews."""
        if not is_name(worker):
            raise Wrong(0)
        self._do(("retire", worker))

    def hire(self, worker, desks):
        """Put a new worker at the end of the line and into the crews of the desks."""
        if not is_name(worker):
            raise Wrong(0)
        if not are_names(desks):
            raise Wrong(1)
        self._do(("hire", worker, list(desks)))

    def late(self, at, deed):
        """Put the deed into the log at the index, and do all deeds after it again."""
        if not is_integer(at) or not 0 <= at <= len(self._log):
            raise Wrong(0)
        if not is_deed(deed):
            raise Wrong(1)
        self._refuse_full()
        changed = self._cut(at)
        following = [copy_of(deed)] + self._log[at:]
        for index, later in enumerate(following):
            try:
                server, floor = changed._floors[-1].after(later)
            except DeskError:
                raise Stopped(at + index) from None
            changed._keep(later, server, floor)
        self._log = changed._log
        self._servers = changed._servers
        self._floors = changed._floors
        self._undone = []

    def undo(self):
        """Take the last deed out of the log and undo it."""
        if len(self._log) == 0:
            raise Nothing()
        self._undone.append(self._log.pop())
        self._servers.pop()
        self._floors.pop()

    def redo(self):
        """Do the deed again that was taken out last."""
        if len(self._undone) == 0:
            raise Nothing()
        deed = self._undone.pop()
        server, floor = self._floors[-1].after(deed)
        self._keep(deed, server, floor)

    def _cut(self, many):
        """Return a Pool with as many of the first deeds in the log, and none to redo."""
        pool = Pool(self._first_roster, self._floors[0].order)
        pool._log = self._log[:many]
        pool._servers = self._servers[:many]
        pool._floors = self._floors[:many + 1]
        return pool

    def copied(self):
        """Return a Pool with the same log and the same deeds to redo."""
        pool = self._cut(len(self._log))
        pool._undone = list(self._undone)
        return pool

    def log(self):
        """Return the deeds."""
        return [copy_of(deed) for deed in self._log]

    def servers(self):
        """Return the servers of all calls in the log."""
        return [server for server in self._servers if server is not None]

    def line(self):
        """Return the line."""
        return list(self._floors[-1].order)

    def desks(self):
        """Return the names of all desks, in ascending order."""
        return sorted(self._floors[-1].teams)

    def crew(self, desk):
        """Return the crew of the desk, in ascending order."""
        teams = self._floors[-1].teams
        if desk not in teams:
            raise NoDesk(desk)
        return sorted(teams[desk])

    def keepers(self):
        """Return the keepers of all desks that are not closed."""
        floor = self._floors[-1]
        open_desks = [desk for desk in self.desks() if len(floor.teams[desk]) > 0]
        return [(desk, first_of(floor.teams[desk], floor.order)) for desk in open_desks]

    def live(self):
        """Return the live workers, in ascending order."""
        return sorted({worker for desk, worker in self.keepers()})

    def roster(self):
        """Return the Roster of the workers and of the desks that are not closed, or None without workers."""
        floor = self._floors[-1]
        if len(floor.order) == 0:
            return None
        return Roster(floor.order, [(desk, crew) for desk, crew in floor.teams.items() if len(crew) > 0])
