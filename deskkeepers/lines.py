"""Lines of a roster: who keeps each desk, and what calls do."""

from deskkeepers.kinds import are_names


def is_line(roster, thing):
    """Return whether the thing is a list of all workers of the roster, each once."""
    return are_names(thing) and sorted(thing) == roster.workers()


def first_of(crew, line):
    """Return the first worker in the line that belongs to the crew."""
    at = 0
    while line[at] not in crew:
        at += 1
    return line[at]


def keepers(roster, line):
    """Return the keepers of the line."""
    return [(desk, first_of(roster.crew(desk), line)) for desk in roster.desks()]


def serve(roster, line, desk):
    """Return the server of a call of the desk, and the line after it."""
    server = first_of(roster.crew(desk), line)
    return server, [server] + [worker for worker in line if worker != server]


def follow(roster, line, calls):
    """Return the servers of the calls, and the line after all of them."""
    servers = []
    now = list(line)
    for desk in calls:
        server, now = serve(roster, now, desk)
        servers.append(server)
    return servers, now


def _is_master(roster, kept, worker):
    """Return whether the worker belongs to a crew and keeps all its desks."""
    desks = roster.desks_of(worker)
    return len(desks) > 0 and all([kept[desk] == worker for desk in desks])


def masters(roster, line):
    """Return the masters in ascending order."""
    kept = dict(keepers(roster, line))
    return [worker for worker in roster.workers() if _is_master(roster, kept, worker)]


def taken(roster, keepers, desk):
    """Return the server of a call of the desk, and the keepers list after it."""
    server = dict(keepers)[desk]
    taken_over = roster.desks_of(server)
    return server, [(name, server if name in taken_over else worker) for name, worker in keepers]
