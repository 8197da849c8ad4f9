"""What the document defines, worked out in the plainest way, and checks that several tests use."""

import unittest
from copy import deepcopy
from itertools import combinations, product

from deskkeepers.errors import DeskError
from samples import Unchanged, lines_of


def plain_keeper(roster, line, desk):
    """The keeper by its definition: the crew member with the least index."""
    return min(roster.crew(desk), key=line.index)


def plain_keepers(roster, line):
    """The keepers list of a line."""
    return [(desk, plain_keeper(roster, line, desk)) for desk in roster.desks()]


def plain_serve(roster, line, desk):
    """A call by its definition: the server is taken out and put to the front."""
    server = plain_keeper(roster, line, desk)
    rest = list(line)
    rest.remove(server)
    return server, [server, *rest]


def plain_follow(roster, line, calls):
    """The line after calls."""
    for desk in calls:
        line = plain_serve(roster, line, desk)[1]
    return line


def plain_live(roster, line):
    """The live workers of a line, as a set."""
    return {worker for _, worker in plain_keepers(roster, line)}


def plain_taken(roster, given, desk):
    """The keepers list after a call of a desk of any keepers list."""
    server = dict(given)[desk]
    return [(name, server if server in roster.crew(name) else worker) for name, worker in given]


def meets(given, wishes):
    """Whether a keepers list meets wishes."""
    return all(wish in given for wish in wishes)


def keepers_lists(roster):
    """All keepers lists of a roster, also those that no line has."""
    choices = [[(desk, worker) for worker in roster.crew(desk)] for desk in roster.desks()]
    return [list(choice) for choice in product(*choices)]


def wishes_of(roster):
    """All wishes in a roster, each with its desks in ascending order."""
    choices = [[None] + [(desk, worker) for worker in roster.crew(desk)] for desk in roster.desks()]
    return [[wish for wish in choice if wish is not None] for choice in product(*choices)]


def subsets(things):
    """All lists of some of the things, in their order."""
    return [list(some) for many in range(len(things) + 1) for some in combinations(things, many)]


def distances(roster, line):
    """For each line to which calls lead from a line, the fewest calls that do."""
    found = {tuple(line): 0}
    queue = [line]
    for now in queue:
        for desk in roster.desks():
            after = plain_serve(roster, now, desk)[1]
            if tuple(after) not in found:
                found[tuple(after)] = found[tuple(now)] + 1
                queue.append(after)
    return found


def entries(roster):
    """All tuples that a log of the roster may contain."""
    return [(desk, worker) for desk in roster.desks() for worker in roster.crew(desk)]


def lines_after(roster, log):
    """Pairs of each line from which the log is possible, and the line after it."""
    pairs = [(line, line) for line in lines_of(roster)]
    for desk, worker in log:
        called = [(start, *plain_serve(roster, now, desk)) for start, now in pairs]
        pairs = [(start, after) for start, server, after in called if server == worker]
    return pairs


def is_plain_cover(roster, workers):
    """Whether the workers contain one of each crew."""
    return all(set(roster.crew(desk)) & set(workers) for desk in roster.desks())


def is_plain_lean(roster, workers):
    """Whether the workers are a cover that contains no other one."""
    covers = [some for some in subsets(workers) if is_plain_cover(roster, some)]
    return covers == [list(workers)]


def outcome(function, *arguments):
    """What the function returns, or the error that it raises with its fields."""
    try:
        return function(*arguments)
    except DeskError as error:
        return type(error).__name__, vars(error)


def spoil(thing):
    """Change every list inside a thing."""
    if isinstance(thing, (list, tuple)):
        for item in thing:
            spoil(item)
    if isinstance(thing, list):
        thing.append('spoilt')
        thing.reverse()


class Case(unittest.TestCase):
    """A test case with the checks that every function is put to."""

    def raises(self, error, function, *arguments, **more):
        """The function raises an error of this very class with these fields; its arguments stay."""
        with Unchanged(self, *arguments):
            with self.assertRaises(DeskError) as held:
                function(*arguments, **more)
        self.assertIs(type(held.exception), type(error))
        self.assertEqual(vars(held.exception), vars(error))

    def steady(self, function, *arguments, **more):
        """Return what the function returns: its arguments stay, and a changed answer changes nothing."""
        with Unchanged(self, *arguments):
            found = function(*arguments, **more)
            kept = deepcopy(found)
            spoil(found)
            self.assertEqual(function(*arguments, **more), kept)
        return kept

    def by_turns(self, function, calls):
        """The function answers the same to each of the lists of arguments, in whatever order."""
        answers = [function(*arguments) for arguments in calls]
        for arguments, answer in list(zip(calls, answers))[::-1] + list(zip(calls, answers)):
            self.assertEqual(function(*arguments), answer)
        return answers
