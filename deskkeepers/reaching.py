"""Reaching: who must be called for wished keepers, and with which calls."""

from deskkeepers.covers import live, own_desks
from deskkeepers.errors import NoOwn, NotLive
from deskkeepers.kinds import is_name
from deskkeepers.lines import keepers
from deskkeepers.orders import arrange


def _refuse_not_live(roster, line, wishes):
    """Raise NotLive for the first wish whose worker is not live."""
    alive = live(roster, line)
    for desk, worker in wishes:
        if worker not in alive:
            raise NotLive(worker)


def must_call(roster, line, wishes):
    """Return reasons (worker, desk, other), one for each worker that must be called."""
    _refuse_not_live(roster, line, wishes)
    kept = keepers(roster, line)
    reasons = []
    called = []
    for desk, worker in wishes:
        if worker not in called and (desk, worker) not in kept:
            reasons.append((worker, desk, None))
            called.append(worker)
    at = 0
    while at < len(called):
        for desk, worker in wishes:
            if worker not in called and called[at] in roster.crew(desk):
                reasons.append((worker, desk, called[at]))
                called.append(worker)
        at += 1
    return reasons


def _is_reason(roster, kept, wishes, earlier, item):
    """Return whether the item is a reason for a new worker, after those for the earlier ones."""
    if not isinstance(item, tuple) or len(item) != 3:
        return False
    worker, desk, other = item
    if not is_name(worker) or not is_name(desk) or worker in earlier or (desk, worker) not in wishes:
        return False
    if (desk, worker) not in kept:
        return other is None
    return is_name(other) and other in earlier and other in roster.crew(desk)


def is_must_call(roster, line, wishes, thing):
    """Return whether the thing is a list of reasons, one for each worker that must be called."""
    many = len(must_call(roster, line, wishes))
    if not isinstance(thing, list):
        return False
    kept = keepers(roster, line)
    earlier = []
    for item in thing:
        if not _is_reason(roster, kept, wishes, earlier, item):
            return False
        earlier.append(item[0])
    # Reasons show that their workers must be called, so as many as all of them are all of them.
    return len(earlier) == many


def reach(roster, line, wishes):
    """Return ("cycle", workers), or ("calls", calls) after which the keepers meet the wishes."""
    called = sorted([worker for worker, desk, other in must_call(roster, line, wishes)])
    kind, order = arrange(roster, wishes)
    if kind == "cycle":
        return kind, order
    alive = live(roster, line)
    own = {worker: own_desks(roster, alive, worker) for worker in called}
    for worker in called:
        if len(own[worker]) == 0:
            raise NoOwn(worker)
    # Who is called later stands further ahead, and nobody else can take an own desk.
    return "calls", [own[worker][0] for worker in reversed(order) if worker in own]
