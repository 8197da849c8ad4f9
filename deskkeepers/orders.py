"""Orders: which keepers a line can have, the least line for them, and how many there are."""

from deskkeepers.errors import TooMany
from deskkeepers.kinds import are_names
from deskkeepers.masks import is_alone, mask_of

MOST_ARRANGED = 8


def _ahead(roster, wishes):
    """Return a dict: for each worker, those that must be ahead of it to meet the wishes."""
    ahead = {worker: [] for worker in roster.workers()}
    for desk, worker in wishes:
        for other in roster.crew(desk):
            if other != worker and worker not in ahead[other]:
                ahead[other].append(worker)
    return ahead


def _hinderers(ahead, rest, worker):
    """Return those of the rest that must be ahead of the worker."""
    return [other for other in ahead[worker] if other in rest]


def _cycle(ahead, rest):
    """Return a cycle among the rest, each of whom has one of them ahead of it."""
    walk = [rest[0]]
    while walk.count(walk[-1]) == 1:
        walk.append(_hinderers(ahead, rest, walk[-1])[0])
    # The walk goes from each worker to one ahead of it; the cycle goes the other way.
    return list(reversed(walk[walk.index(walk[-1]) + 1:]))


def arrange(roster, wishes):
    """Return ("line", line) with the least line that meets the wishes, or ("cycle", workers)."""
    ahead = _ahead(roster, wishes)
    line = []
    rest = roster.workers()
    while len(rest) > 0:
        free = [worker for worker in rest if len(_hinderers(ahead, rest, worker)) == 0]
        if len(free) == 0:
            return "cycle", _cycle(ahead, rest)
        line.append(free[0])
        rest.remove(free[0])
    return "line", line


def is_cycle(roster, wishes, thing):
    """Return whether the thing is a cycle of the wishes."""
    if not are_names(thing) or len(thing) < 2:
        return False
    ahead = _ahead(roster, wishes)
    pairs = list(zip(thing, thing[1:] + thing[:1]))
    return all([other in ahead and worker in ahead[other] for worker, other in pairs])


def _signs(many):
    """Return a list: for each mask of as many workers, 1 if their number is even, else -1."""
    signs = [1]
    for mask in range(1, 1 << many):
        signs.append(-signs[mask & (mask - 1)])
    return signs


def _arrangements_of(crews, signs, counts, inside):
    """Return the number of keepers lists of the crews inside the mask, from those of smaller masks."""
    crews_inside = [crew for crew in crews if crew & inside == crew]
    total = 0
    masters = inside
    while masters > 0:
        if all([is_alone(crew & masters) for crew in crews_inside]):
            total -= signs[masters] * counts[inside - masters]
        masters = (masters - 1) & inside
    return total


def arrangements(roster):
    """Return the number of different keepers lists that lines of the roster have."""
    workers = [worker for worker in roster.workers() if len(roster.desks_of(worker)) > 0]
    if len(workers) > MOST_ARRANGED:
        raise TooMany(MOST_ARRANGED)
    crews = [mask_of(workers, roster.crew(desk)) for desk in roster.desks()]
    signs = _signs(len(workers))
    # Any workers that keep all their desks can stand at the front, and the others behind them have
    # any keepers list of the crews that are left. A keepers list with several such workers is counted
    # for each choice of some of them: with alternating signs, by the size of the choice, once in all.
    counts = [1]
    for inside in range(1, 1 << len(workers)):
        counts.append(_arrangements_of(crews, signs, counts, inside))
    return counts[-1]
