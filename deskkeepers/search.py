"""Search: the first of the shortest calls for wished keepers, or a closed list that shows there are none."""

from deskkeepers.errors import TooMany
from deskkeepers.lines import keepers
from deskkeepers.nodes import Nodes, node_of


def find(roster, line, wishes, *, limit=400):
    """Return ("calls", calls) after which the keepers meet the wishes, or ("never", table)."""
    nodes = Nodes(roster)
    start = node_of(keepers(roster, line))
    if nodes.meets(start, wishes):
        return "calls", []
    ways = {start: []}
    queue = [start]
    at = 0
    while at < len(queue):
        now = queue[at]
        for desk, after in nodes.calls(now):
            if after in ways:
                continue
            ways[after] = ways[now] + [desk]
            if nodes.meets(after, wishes):
                return "calls", ways[after]
            if len(ways) > limit:
                raise TooMany(limit)
            queue.append(after)
        at += 1
    return "never", [nodes.keepers_of(node) for node in queue]


def _stays(nodes, shown, node):
    """Return whether each call leads from the node to one that is shown."""
    return all([after in shown for desk, after in nodes.calls(node)])


def is_never(roster, line, wishes, thing):
    """Return whether the thing shows that no calls lead to keepers that meet the wishes."""
    nodes = Nodes(roster)
    if not isinstance(thing, list) or not all([nodes.are_keepers(item) for item in thing]):
        return False
    shown = {node_of(kept): True for kept in thing}
    if node_of(keepers(roster, line)) not in shown:
        return False
    return all([not nodes.meets(node, wishes) and _stays(nodes, shown, node) for node in shown])
