"""Nodes: keepers lists as tuples of the keepers alone, which can be keys, and what calls do to them."""

from deskkeepers.kinds import is_name


def node_of(kept):
    """Return the node of a keepers list."""
    return tuple([worker for desk, worker in kept])


def _is_kept(crews, desk, item):
    """Return whether the item is a tuple of the desk and a worker of its crew."""
    if not isinstance(item, tuple) or len(item) != 2:
        return False
    name, worker = item
    return is_name(name) and name == desk and is_name(worker) and worker in crews[desk]


class Nodes:
    """The nodes of a roster. It never changes."""

    def __init__(self, roster):
        self._names = roster.desks()
        self._teams = {desk: roster.crew(desk) for desk in self._names}
        # For each worker, whether it can serve each of the desks, in their order.
        teams = [roster.crew(desk) for desk in self._names]
        self._serving = {worker: [worker in crew for crew in teams] for worker in roster.workers()}

    def are_keepers(self, thing):
        """Return whether the thing is a keepers list of the roster."""
        if not isinstance(thing, list) or len(thing) != len(self._names):
            return False
        return all([_is_kept(self._teams, desk, item) for desk, item in zip(self._names, thing)])

    def keepers_of(self, node):
        """Return the keepers list of the node."""
        return list(zip(self._names, node))

    def meets(self, node, wishes):
        """Return whether the keepers list of the node meets the wishes."""
        kept = dict(zip(self._names, node))
        return all([kept[desk] == worker for desk, worker in wishes])

    def _taken(self, node, server):
        """Return the node after a call that the server serves."""
        return tuple([server if serves else worker for serves, worker in zip(self._serving[server], node)])

    def calls(self, node):
        """Return a list of (desk, node after a call of it) for each desk, in ascending order."""
        after = {server: self._taken(node, server) for server in sorted(set(node))}
        return [(desk, after[server]) for desk, server in zip(self._names, node)]
