"""Costs: the cheapest calls for wished keepers, if each desk has a price."""

from heapq import heappop, heappush

from deskkeepers.errors import TooMany
from deskkeepers.kinds import is_integer
from deskkeepers.lines import keepers
from deskkeepers.nodes import Nodes, node_of


def _explored(nodes, start, limit):
    """Return a dict: the calls of each node to which calls lead from the start."""
    met = {start: True}
    queue = [start]
    calls = {}
    while len(queue) > 0:
        now = queue.pop()
        calls[now] = nodes.calls(now)
        for desk, after in calls[now]:
            if after not in met:
                met[after] = True
                queue.append(after)
        if len(met) > limit:
            raise TooMany(limit)
    return calls


def _sources(calls, prices):
    """Return a dict: for each node a list of (price, node before the call)."""
    price_of = dict(prices)
    sources = {node: [] for node in calls}
    for node, steps in calls.items():
        for desk, after in steps:
            sources[after].append((price_of[desk], node))
    return sources


def _least_costs(calls, prices, goals):
    """Return a dict: the least cost from each node from which calls lead to one of the goals."""
    sources = _sources(calls, prices)
    queue = []
    for node in goals:
        heappush(queue, (0, node))
    costs = {}
    # Back from the goals, always on from the cheapest node: its cost can't get less any more.
    while len(queue) > 0:
        cost, node = heappop(queue)
        if node in costs:
            continue
        costs[node] = cost
        for price, before in sources[node]:
            if before not in costs:
                heappush(queue, (cost + price, before))
    return costs


def _calls_and_costs(nodes, start, wishes, prices, limit):
    """Return the calls of each node to which calls lead, and the least costs of those that have one."""
    calls = _explored(nodes, start, limit)
    goals = [node for node in calls if nodes.meets(node, wishes)]
    return calls, _least_costs(calls, prices, goals)


def price_table(roster, line, wishes, prices, *, limit=400):
    """Return (keepers, least cost or None) for each keepers list to which calls lead, in ascending order."""
    nodes = Nodes(roster)
    calls, costs = _calls_and_costs(nodes, node_of(keepers(roster, line)), wishes, prices, limit)
    return [(nodes.keepers_of(node), costs.get(node)) for node in sorted(calls)]


def cheapest(roster, line, wishes, prices, *, limit=400):
    """Return ("calls", cost, calls) with the least cost of calls that lead to the wishes, or ("never",)."""
    nodes = Nodes(roster)
    now = node_of(keepers(roster, line))
    calls, costs = _calls_and_costs(nodes, now, wishes, prices, limit)
    if now not in costs:
        return ("never",)
    least = costs[now]
    price_of = dict(prices)
    found = []
    while costs[now] > 0:
        # Some call leaves just the cost of the node after it.
        ways = [(desk, after) for desk, after in calls[now] if costs.get(after) == costs[now] - price_of[desk]]
        found.append(ways[0][0])
        now = ways[0][1]
    return "calls", least, found


def _is_row(nodes, item):
    """Return whether the item is a tuple of a keepers list, and an integer or None."""
    if not isinstance(item, tuple) or len(item) != 2:
        return False
    kept, cost = item
    return nodes.are_keepers(kept) and (cost is None or is_integer(cost))


def _is_right(nodes, node, wishes, price_of, costs):
    """Return whether all calls lead from the node to ones with a cost, and its own cost follows from these."""
    calls = nodes.calls(node)
    if not all([after in costs for desk, after in calls]):
        return False
    if nodes.meets(node, wishes):
        return costs[node] == 0
    sums = [price_of[desk] + costs[after] for desk, after in calls if costs[after] is not None]
    return costs[node] == min(sums, default=None)


def is_price_table(roster, line, wishes, prices, thing):
    """Return whether the thing is a closed table of keepers lists with their right costs."""
    nodes = Nodes(roster)
    if not isinstance(thing, list) or not all([_is_row(nodes, item) for item in thing]):
        return False
    costs = {node_of(kept): cost for kept, cost in thing}
    if len(costs) < len(thing) or node_of(keepers(roster, line)) not in costs:
        return False
    price_of = dict(prices)
    return all([_is_right(nodes, node, wishes, price_of, costs) for node in costs])
