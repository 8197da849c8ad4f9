"""Settling: the live sets that stay, and the fewest calls that lead to them."""

from itertools import combinations

from deskkeepers.covers import MOST_CHOSEN, is_lean, lean_covers, live, own_desks
from deskkeepers.errors import NotLean, NotLive, TooMany
from deskkeepers.lines import keepers
from deskkeepers.masks import mask_of, meets_all


def ends(roster, line):
    """Return the sets of workers to which the pool can settle, in ascending order."""
    return lean_covers(roster, live(roster, line))


def is_settled(roster, line):
    """Return whether no sequence of calls changes the live set."""
    return is_lean(roster, live(roster, line))


def _fewest(workers, crews):
    """Return the fewest of the workers that meet all crews; all of the workers together do."""
    masks = [mask_of(workers, crew) for crew in crews]
    for many in range(len(workers)):
        for chosen in combinations(workers, many):
            if meets_all(masks, mask_of(workers, chosen)):
                return list(chosen)
    return list(workers)


def calls_of(roster, line, workers):
    """Return calls that the workers, live ones, serve, one each."""
    kept = {worker: desk for desk, worker in keepers(roster, line)}
    # The order of the line: nobody ahead of the keeper of a desk is in its crew and takes it over.
    return [kept[worker] for worker in line if worker in workers]


def refuse_no_end(roster, line, cover):
    """Raise NotLean or NotLive if the pool cannot settle to the cover."""
    if not is_lean(roster, cover):
        raise NotLean()
    alive = live(roster, line)
    for worker in sorted(cover):
        if worker not in alive:
            raise NotLive(worker)


def settle(roster, line, cover):
    """Return a shortest list of calls after which the live workers are those of the cover."""
    refuse_no_end(roster, line, cover)
    if len(cover) > MOST_CHOSEN:
        raise TooMany(MOST_CHOSEN)
    lost = [roster.crew(desk) for desk, worker in keepers(roster, line) if worker not in cover]
    return calls_of(roster, line, _fewest(cover, lost))


def lose(roster, line, worker):
    """Return ("safe", desk), or ("calls", calls) after which the worker is not live."""
    alive = live(roster, line)
    if worker not in alive:
        raise NotLive(worker)
    own = own_desks(roster, alive, worker)
    if len(own) > 0:
        return "safe", own[0]
    if len(alive) > MOST_CHOSEN:
        raise TooMany(MOST_CHOSEN)
    others = [other for other in alive if other != worker]
    lost = [roster.crew(desk) for desk, keeper in keepers(roster, line) if keeper == worker]
    return "calls", calls_of(roster, line, _fewest(others, lost))
