"""Covers: the live workers, and sets of workers with one of each crew."""

from deskkeepers.errors import TooMany
from deskkeepers.lines import keepers
from deskkeepers.masks import is_alone, mask_of, meets_all, named

MOST_CHOSEN = 12


def live(roster, line):
    """Return the live workers in ascending order."""
    return sorted({worker for desk, worker in keepers(roster, line)})


def _common(roster, desk, workers):
    """Return those of the desk's crew that are among the workers."""
    return [worker for worker in roster.crew(desk) if worker in workers]


def is_cover(roster, workers):
    """Return whether the workers are a cover."""
    return all([len(_common(roster, desk, workers)) > 0 for desk in roster.desks()])


def own_desks(roster, workers, worker):
    """Return the own desks of the worker in the workers, in ascending order."""
    return [desk for desk in roster.desks() if _common(roster, desk, workers) == [worker]]


def is_lean(roster, workers):
    """Return whether the workers are a lean cover."""
    return is_cover(roster, workers) and all([len(own_desks(roster, workers, worker)) > 0 for worker in workers])


def _is_lean_mask(crews, mask):
    """Return whether the mask meets all crews, and each of its workers meets one of them alone."""
    if not meets_all(crews, mask):
        return False
    alone = 0
    for crew in crews:
        if is_alone(crew & mask):
            alone = alone | (crew & mask)
    return alone == mask


def lean_covers(roster, workers):
    """Return the lean covers with members among the workers, in ascending order."""
    if len(workers) > MOST_CHOSEN:
        raise TooMany(MOST_CHOSEN)
    choice = sorted(workers)
    crews = [mask_of(choice, roster.crew(desk)) for desk in roster.desks()]
    return sorted([named(choice, mask) for mask in range(1 << len(choice)) if _is_lean_mask(crews, mask)])
