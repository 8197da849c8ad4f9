"""Rosters and values that several tests use."""

from copy import deepcopy
from itertools import combinations, permutations
from random import Random

from deskkeepers.rosters import Roster

CREWS = [['a'], ['b'], ['c'], ['a', 'b'], ['a', 'c'], ['b', 'c'], ['a', 'b', 'c']]


def first():
    """The first roster of [22]."""
    return Roster(['bob', 'ann', 'cid'], [('bc', ['bob', 'cid']), ('ab', ['bob', 'ann']), ('c', ['cid'])])


def ring():
    """Three workers, each with a desk alone and a desk with each other one."""
    desks = [('x', ['x']), ('xy', ['x', 'y']), ('y', ['y']), ('yz', ['y', 'z']), ('z', ['z']), ('zx', ['x', 'z'])]
    return Roster(['x', 'y', 'z'], desks)


def small_rosters():
    """Rosters of three workers with up to three desks of all crews."""
    rosters = []
    for many in range(4):
        for crews in combinations(CREWS, many):
            desks = [('d' + 'xyz'[at], crew) for at, crew in enumerate(crews)]
            rosters.append(Roster(['a', 'b', 'c'], desks))
    return rosters


def lines_of(roster):
    """All lines of a roster."""
    return [list(line) for line in permutations(roster.workers())]


def names(many, letter='w'):
    """As many different names, in ascending order."""
    alphabet = 'abcdefghijklmnopqrstuvwxyz'
    return [letter + alphabet[at // 26] + alphabet[at % 26] for at in range(many)]


def wide():
    """Forty workers and sixty desks with overlapping crews."""
    workers = names(40)
    desks = [(name, [workers[(at * 7 + step * step) % 40] for step in range(at % 3 + 1)])
             for at, name in enumerate(names(60, 'd'))]
    return Roster(workers, desks)


def paired(many):
    """Pairs of workers, each with an own desk and both with a shared one, and a desk zz where zb is never live.

    The line of all workers in ascending order has za ahead of zb, and each v ahead of its w.
    """
    ones, others = names(many, 'v'), names(many)
    own = [('o' + name, [name]) for name in ones + others]
    shared = [('s' + other, [one, other]) for one, other in zip(ones, others)]
    return Roster([*ones, *others, 'za', 'zb'], [*own, *shared, ('zz', ['za', 'zb'])])


def mixed_rosters(many, workers, desks, seed=1):
    """As many rosters with the same numbers of workers and desks; the seed decides about the crews."""
    chance = Random(seed)
    rosters = []
    for _ in range(many):
        team = names(workers, 'v')
        chance.shuffle(team)
        crews = [chance.sample(team, chance.randint(1, min(3, workers))) for _ in range(desks)]
        rosters.append(Roster(team, list(zip(names(desks, 'd'), crews))))
    return rosters


def content(roster):
    """All that a roster tells of itself."""
    desks = [(desk, roster.crew(desk)) for desk in roster.desks()]
    workers = [(worker, roster.desks_of(worker)) for worker in roster.workers()]
    return desks, workers, len(roster)


def nested(depth):
    """Lists inside lists."""
    thing = []
    for _ in range(depth - 1):
        thing = [thing]
    return thing


class Odd:
    """A value of a class that the package does not know, equal to everything."""

    def __eq__(self, other):
        return True

    __hash__ = None


class Other:
    """A value of a class that the package does not know, equal to itself alone."""

    def __deepcopy__(self, memo):
        return self


def odd_values():
    """Values of many kinds, none of them a name or a list of names with an item."""
    return [None, True, False, 0, 1, -7, 10 ** 40, '', 'A', 'a b', b'a', b'', [], [[]], [1], [None], ['a', 1],
            ['a', 'a'], (), ('a',), ('a', 'b'), (('a', 'b'),), {}, {'a': 'b'}, {'a'}, set(), frozenset(['a']),
            range(3), Other(), len, ValueError, Odd(), first(), nested(20), [''], [['a']], [('a',)], [{}], [b'a']]


class Unchanged:
    """Checks on leaving that values are as they were on entering."""

    def __init__(self, case, *things):
        self.case = case
        self.things = things

    def __enter__(self):
        self.before = deepcopy(self.things)
        return self

    def __exit__(self, kind, value, trace):
        if kind is None:
            self.case.assertEqual(self.things, self.before)
