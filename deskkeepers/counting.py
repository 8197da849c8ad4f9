"""Counting: how many lines a log leaves, and their numbers in ascending order."""

from math import factorial

from deskkeepers.errors import NoNumber, TooMany
from deskkeepers.logs import facts
from deskkeepers.masks import mask_of

MOST_COUNTED = 12


def _masks_ahead(roster, log):
    """Return a list: for each worker, the mask of those that are ahead of it in each line."""
    known = facts(roster, log)
    workers = roster.workers()
    if len(workers) > MOST_COUNTED:
        raise TooMany(MOST_COUNTED)
    return [mask_of(workers, [worker for worker, other in known if other == name]) for name in workers]


def _next_ones(ahead, placed):
    """Return the indexes of the workers that can stand next behind the mask of those placed."""
    return [at for at, mask in enumerate(ahead) if (placed >> at) & 1 == 0 and mask & placed == mask]


def _ways(ahead):
    """Return a list: for each mask of workers placed, in how many ways the others can stand behind them."""
    everyone = (1 << len(ahead)) - 1
    ways = [0] * everyone + [1]
    for placed in reversed(range(everyone)):
        ways[placed] = sum([ways[placed + (1 << at)] for at in _next_ones(ahead, placed)])
    return ways


def _can_be_next(ahead, leaders, back, leader):
    """Return whether the leader is not in the mask yet, but all leaders behind it are."""
    behind = [at for at in leaders if (ahead[at] >> leader) & 1 == 1]
    return (back >> leader) & 1 == 0 and all([(back >> at) & 1 == 1 for at in behind])


def _placed_many(ahead, back):
    """Return how many belong to the mask or have one of it ahead."""
    return len([at for at, mask in enumerate(ahead) if (mask + (1 << at)) & back > 0])


def _with_one_more(ahead, leaders, ways):
    """Return a dict of the ways for the masks of one more leader, from one for the masks before."""
    longer = {}
    for back, many in ways.items():
        placed = _placed_many(ahead, back)
        for leader in leaders:
            if _can_be_next(ahead, leaders, back, leader):
                front = back + (1 << leader)
                more = factorial(_placed_many(ahead, front) - 1) // factorial(placed)
                longer[front] = longer.get(front, 0) + many * more
    return longer


def _lines_many(ahead):
    """Return the number of lines in which each worker stands behind those of its mask."""
    leaders = [at for at in range(len(ahead)) if any([(mask >> at) & 1 == 1 for mask in ahead])]
    # Lines are made from the back: one leader after the other is put at the front, and then all others
    # that have it ahead of them, and none of the leaders before, are put anywhere behind it.
    ways = {0: 1}
    for _ in leaders:
        ways = _with_one_more(ahead, leaders, ways)
    everyone = factorial(len(ahead))
    return sum([many * (everyone // factorial(_placed_many(ahead, back))) for back, many in ways.items()])


def line_many(roster, log):
    """Return the number of lines from which the log is possible."""
    return _lines_many(_masks_ahead(roster, log))


def line_of(roster, log, number):
    """Return the line with the number."""
    ahead = _masks_ahead(roster, log)
    ways = _ways(ahead)
    if number >= ways[0]:
        raise NoNumber(number)
    workers = roster.workers()
    line = []
    placed = 0
    rest = number
    while len(line) < len(workers):
        for at in _next_ones(ahead, placed):
            many = ways[placed + (1 << at)]
            if rest < many:
                break
            rest -= many
        line.append(workers[at])
        placed += 1 << at
    return line


def line_number(roster, log, line):
    """Return the number of the line, or None if the log is not possible from it."""
    ahead = _masks_ahead(roster, log)
    ways = _ways(ahead)
    workers = roster.workers()
    number = 0
    placed = 0
    for worker in line:
        at = workers.index(worker)
        following = _next_ones(ahead, placed)
        if at not in following:
            return None
        number += sum([ways[placed + (1 << other)] for other in following if other < at])
        placed += 1 << at
    return number
