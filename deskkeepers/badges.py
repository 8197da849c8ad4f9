"""Badges: whether an observer, who sees the badges of the servers alone, can tell two pools apart."""

from deskkeepers.errors import TooMany, Unlike
from deskkeepers.lines import keepers
from deskkeepers.nodes import Nodes, node_of


def _refuse_unlike(one, other):
    """Raise Unlike if the desks of the two rosters do not have the same names."""
    if one.desks() != other.desks():
        raise Unlike()


class Side:
    """One of the two pools: the nodes of its roster, and the badges of its workers. It never changes."""

    def __init__(self, roster, line, badges):
        self.nodes = Nodes(roster)
        self.start = node_of(keepers(roster, line))
        self.badge_of = dict(badges)

    def steps(self, node):
        """Return a list of (badge that is seen, node after the call) for each desk, in ascending order."""
        badges = [self.badge_of[server] for server in node]
        return [(badge, after) for badge, (desk, after) in zip(badges, self.nodes.calls(node))]


def _steps(here, there, pair):
    """Return a list of (whether the badges are the same, pair after the call) for each desk, in ascending order."""
    node, node_there = pair
    return [(badge == badge_there, (after, after_there))
            for (badge, after), (badge_there, after_there) in zip(here.steps(node), there.steps(node_there))]


def _is_pair(here, there, item):
    """Return whether the item is a tuple of a keepers list of each of the two sides."""
    if not isinstance(item, tuple) or len(item) != 2:
        return False
    kept, kept_there = item
    return here.nodes.are_keepers(kept) and there.nodes.are_keepers(kept_there)


def compare_badges(one, line, badges, other, other_line, other_badges, *, limit=400):
    """Return ("apart", calls) whose last one shows different badges, or ("alike", pairs)."""
    _refuse_unlike(one, other)
    desks = one.desks()
    here = Side(one, line, badges)
    there = Side(other, other_line, other_badges)
    start = (here.start, there.start)
    ways = {start: []}
    queue = [start]
    at = 0
    while at < len(queue):
        pair = queue[at]
        for desk, (is_same, after) in zip(desks, _steps(here, there, pair)):
            calls = ways[pair] + [desk]
            if not is_same:
                return "apart", calls
            if after in ways:
                continue
            ways[after] = calls
            if len(ways) > limit:
                raise TooMany(limit)
            queue.append(after)
        at += 1
    return "alike", [(here.nodes.keepers_of(node), there.nodes.keepers_of(node_there)) for node, node_there in queue]


def _agrees(here, there, shown, pair):
    """Return whether each call shows the same badges and leads from the pair to one that is shown."""
    return all([is_same and after in shown for is_same, after in _steps(here, there, pair)])


def is_agreement(one, line, badges, other, other_line, other_badges, thing):
    """Return whether the thing shows that no calls show different badges."""
    _refuse_unlike(one, other)
    here = Side(one, line, badges)
    there = Side(other, other_line, other_badges)
    if not isinstance(thing, list) or not all([_is_pair(here, there, item) for item in thing]):
        return False
    shown = {(node_of(kept), node_of(kept_there)): True for kept, kept_there in thing}
    if (here.start, there.start) not in shown:
        return False
    return all([_agrees(here, there, shown, pair) for pair in shown])
