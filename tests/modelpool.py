"""A plain model of a pool, which does its whole log again for every answer, and random deeds for both."""

from copy import deepcopy

from deskkeepers.errors import Closed, DeskError, Known, NoDesk, NoWorker, Nothing, Stopped, TooMany
from deskkeepers.rosters import Roster


def plain_do(line, crews, deed):
    """Do a deed to a line and crews and return the server, if there is one."""
    if deed[0] == 'call':
        if deed[1] not in crews:
            raise NoDesk(deed[1])
        if not crews[deed[1]]:
            raise Closed(deed[1])
        server = min(crews[deed[1]], key=line.index)
        line.remove(server)
        line.insert(0, server)
        return server
    if deed[0] == 'retire':
        if deed[1] not in line:
            raise NoWorker(deed[1])
        line.remove(deed[1])
        for crew in crews.values():
            crew.discard(deed[1])
        return None
    if deed[1] in line:
        raise Known(deed[1])
    for desk in deed[2]:
        if desk not in crews:
            raise NoDesk(desk)
    if len(line) == 40:
        raise TooMany(40)
    line.append(deed[1])
    for desk in deed[2]:
        crews[desk].add(deed[1])
    return None


class Model:
    """What [90] and [91] say, in the plainest way."""

    def __init__(self, roster, line):
        self.start = (list(line), {desk: set(roster.crew(desk)) for desk in roster.desks()})
        self.deeds = []
        self.undone = []

    def state(self):
        """The line, the crews and the servers after all deeds."""
        line, crews = deepcopy(self.start)
        served = [plain_do(line, crews, deed) for deed in self.deeds]
        return line, crews, [server for server in served if server]

    def do(self, *deed):
        line, crews, _ = self.state()
        server = plain_do(line, crews, deed)
        if len(self.deeds) == 200:
            raise TooMany(200)
        self.deeds.append(deepcopy(deed))
        self.undone = []
        return server

    def call(self, desk):
        return self.do('call', desk)

    def retire(self, worker):
        return self.do('retire', worker)

    def hire(self, worker, desks):
        return self.do('hire', worker, desks)

    def late(self, at, deed):
        if len(self.deeds) == 200:
            raise TooMany(200)
        deeds = [*self.deeds[:at], deepcopy(deed), *self.deeds[at:]]
        line, crews = deepcopy(self.start)
        for index, each in enumerate(deeds):
            try:
                plain_do(line, crews, each)
            except DeskError:
                raise Stopped(index)
        self.deeds, self.undone = deeds, []

    def undo(self):
        if not self.deeds:
            raise Nothing()
        self.undone.append(self.deeds.pop())

    def redo(self):
        if not self.undone:
            raise Nothing()
        self.deeds.append(self.undone.pop())

    def copied(self):
        return deepcopy(self)

    def answers(self):
        """The answers of all queries, as told_of gives them for a pool."""
        line, crews, servers = self.state()
        opened = {desk: sorted(crews[desk]) for desk in sorted(crews) if crews[desk]}
        kept = [(desk, min(crew, key=line.index)) for desk, crew in opened.items()]
        return {'log': self.deeds, 'servers': servers, 'line': line, 'desks': sorted(crews), 'len': len(self.deeds),
                'crews': [sorted(crews[desk]) for desk in sorted(crews)], 'keepers': kept,
                'live': sorted({worker for _, worker in kept}),
                'roster': (sorted(line), list(opened.items())) if line else None}


def told_of(pool):
    """The answers of all queries of a pool."""
    roster = pool.roster()
    assert roster is None or type(roster) is Roster
    return {'log': pool.log(), 'servers': pool.servers(), 'line': pool.line(), 'desks': pool.desks(), 'len': len(pool),
            'crews': [pool.crew(desk) for desk in pool.desks()], 'keepers': pool.keepers(), 'live': pool.live(),
            'roster': None if roster is None else (roster.workers(), [(desk, roster.crew(desk)) for desk in roster.desks()])}


def random_deed(chance, workers, desks):
    """A deed with some of the names."""
    kind = chance.choice(['call', 'call', 'call', 'retire', 'hire'])
    if kind == 'call':
        return 'call', chance.choice(desks)
    if kind == 'retire':
        return 'retire', chance.choice(workers)
    return 'hire', chance.choice(workers), chance.sample(desks, chance.randrange(len(desks) + 1))
