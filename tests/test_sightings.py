"""Tests of [64] and [65]."""

import unittest
from itertools import product
from math import factorial

from deskkeepers.errors import TooMany
from deskkeepers.lines import follow
from deskkeepers.rosters import Roster
from deskkeepers.sightings import histories, starts_many
from plain import Case, lines_after, plain_follow, plain_keeper, subsets
from samples import first, lines_of, mixed_rosters, names, ring, small_rosters, wide


def plain_starts(roster, seen):
    """For each line from which the calls can be served as seen, the servers."""
    starts = []
    for line in lines_of(roster):
        servers, now = [], line
        for desk, workers in seen:
            servers.append(plain_keeper(roster, now, desk))
            now = plain_follow(roster, now, [desk])
        if all(server in workers for server, (_, workers) in zip(servers, seen)):
            starts.append(servers)
    return starts


def plain_histories(roster, seen):
    """The choices of servers that are a possible log, all choices gone through."""
    desks = [desk for desk, _ in seen]
    choices = product(*[workers for _, workers in seen])
    return sorted(list(choice) for choice in choices if lines_after(roster, list(zip(desks, choice))))


def plain_many(roster, seen):
    """The greatest number of histories that some first calls have."""
    return max(len(plain_histories(roster, seen[:many])) for many in range(len(seen) + 1))


def sightings_of(roster):
    """All single sightings of a roster, the workers of some of them in descending order."""
    found = []
    for desk in roster.desks():
        for at, some in enumerate(subsets(roster.crew(desk))[1:]):
            found.append((desk, some[::-1] if at % 2 else some))
    return found


def some_sightings():
    """Rosters with sightings, with histories and without."""
    for roster in [first(), *small_rosters()]:
        for many in range(3):
            for seen in product(sightings_of(roster), repeat=many):
                yield roster, list(seen)
    for roster in [first(), ring(), *mixed_rosters(5, 4, 5), *mixed_rosters(2, 5, 6)]:
        single = sightings_of(roster)
        for step in range(1, 60):
            yield roster, [single[(at * at + step * at + step) % len(single)] for at in range(3 + step % 4)]


def pairs(many):
    """A roster with as many desks as said, each with two workers of its own, and one desk of all workers."""
    ones, others = names(many, 'v'), names(many)
    desks = [(name, [name, other]) for name, other in zip(ones, others)]
    return Roster(ones + others, [*desks, ('zz', ones + others)])


def whole(roster, desks):
    """Sightings of the desks that tell nothing of the servers."""
    return [(desk, roster.crew(desk)) for desk in desks]


class TestHistories(Case):
    def test_against_all_choices(self):
        sizes = set()
        for roster, seen in some_sightings():
            wanted = plain_histories(roster, seen)
            self.assertEqual(self.steady(histories, roster, seen), wanted)
            self.assertEqual(wanted, [list(servers) for servers in sorted({tuple(servers) for servers in plain_starts(roster, seen)})])
            sizes.add(len(wanted))
        self.assertTrue(sizes >= {0, 1, 2, 3, 4})

    def test_the_empty_list(self):
        for roster in (first(), ring(), wide(), Roster(['a'], [])):
            for limit in (1, 2, 400, 1000):
                self.assertEqual(histories(roster, [], limit=limit), [[]])
            self.assertEqual(self.steady(histories, roster, []), [[]])

    def test_the_workers_of_a_sighting_in_any_order(self):
        one = Roster(['a', 'b', 'c'], [('x', ['a', 'b', 'c']), ('y', ['b', 'c'])])
        for workers in (['a', 'b', 'c'], ['c', 'b', 'a'], ['b', 'c', 'a']):
            self.assertEqual(histories(one, [('x', workers)]), [['a'], ['b'], ['c']])
            self.assertEqual(histories(one, [('x', workers), ('y', ['c', 'b'])]), [['a', 'b'], ['a', 'c'], ['b', 'b'], ['c', 'c']])

    def test_sightings_without_a_history(self):
        for seen in ([('ab', ['ann']), ('ab', ['bob'])], [('c', ['cid']), ('bc', ['bob'])],
                     [('ab', ['ann']), ('bc', ['cid', 'bob']), ('ab', ['bob']), ('c', ['cid'])]):
            self.assertEqual(histories(first(), seen, limit=3), [] if seen[2:] == [] else [['ann', 'bob', 'bob', 'cid']])
        seen = [('ab', ['ann']), ('bc', ['cid']), ('ab', ['bob']), ('c', ['cid'])]
        for limit in (1, 2, 1000):
            self.assertEqual(histories(first(), seen, limit=limit), [])
        self.assertEqual(histories(first(), seen + [('bc', ['bob'])] * 36), [])

    def test_limits_for_all(self):
        kinds = set()
        for roster, seen in list(some_sightings())[::7]:
            needed, wanted = plain_many(roster, seen), plain_histories(roster, seen)
            for limit in {1, 2, 3, 400, 1000, needed, needed + 1, max(1, needed - 1)}:
                if limit < needed:
                    self.raises(TooMany(limit), histories, roster, seen, limit=limit)
                else:
                    self.assertEqual(histories(roster, seen, limit=limit), wanted)
                kinds.add(limit < needed)
        self.assertEqual(kinds, {True, False})

    def test_limits_that_only_the_first_calls_pass(self):
        one = Roster(['a', 'b', 'c'], [('x', ['a', 'b', 'c'])])
        for seen in ([('x', ['a', 'b', 'c']), ('x', ['b'])], [('x', ['a', 'b', 'c']), ('x', ['a', 'b']), ('x', ['b'])]):
            self.assertEqual(histories(one, seen, limit=3), [['b'] * len(seen)])
            self.raises(TooMany(2), histories, one, seen, limit=2)
            self.raises(TooMany(1), histories, one, seen, limit=1)
        no_history = [('x', ['c', 'a', 'b']), ('x', ['b']), ('x', ['a'])]
        self.assertEqual(histories(one, no_history, limit=3), [])
        self.raises(TooMany(2), histories, one, no_history, limit=2)
        roster = pairs(9)
        seen = whole(roster, names(9, 'v')) + [(name, [name]) for name in names(9, 'v')]
        self.raises(TooMany(400), histories, roster, seen)
        self.raises(TooMany(511), histories, roster, seen, limit=511)
        self.assertEqual(histories(roster, seen, limit=512), [names(9, 'v') * 2])

    def test_limits_that_are_left_out(self):
        for many, fits in ((8, True), (9, False)):
            roster = pairs(many)
            seen = whole(roster, names(many, 'v'))
            if fits:
                self.assertEqual(len(histories(roster, seen)), 2 ** many)
            else:
                self.raises(TooMany(400), histories, roster, seen)
            self.assertEqual(len(histories(roster, seen, limit=2 ** many)), 2 ** many)
            self.raises(TooMany(2 ** many - 1), histories, roster, seen, limit=2 ** many - 1)
        one = Roster(names(40), [('x', names(20)), ('y', names(40)[20:])])
        self.assertEqual(len(histories(one, whole(one, ['x', 'y']))), 400)
        self.raises(TooMany(399), histories, one, whole(one, ['x', 'y']), limit=399)

    def test_forty_sightings_and_forty_workers(self):
        roster = pairs(9)
        seen = whole(roster, names(9, 'v') + ['zz'] + names(9, 'v') * 3 + ['zz', 'vaa', 'vab'])
        self.assertEqual(len(seen), 40)
        found = self.steady(histories, roster, seen, limit=1000)
        self.assertEqual(len(found), 512)
        self.assertEqual(found, sorted(found))
        self.assertEqual(found[0], names(9, 'v') + ['vai'] + names(9, 'v') * 3 + ['vai', 'vaa', 'vab'])
        one = Roster(names(40), [('x', names(40))])
        self.assertEqual(histories(one, [('x', names(40)[::-1])] * 40), [[name] * 40 for name in names(40)])
        self.raises(TooMany(39), histories, one, [('x', names(40))] * 40, limit=39)

    def test_by_turns(self):
        self.by_turns(histories, [(first(), [('bc', ['bob', 'cid']), ('ab', ['ann'])]), (ring(), [('xy', ['y', 'x'])]),
                                  (first(), [('bc', ['bob', 'cid'])]), (first(), [])])


class TestStartsMany(Case):
    def test_against_all_lines(self):
        for roster, seen in some_sightings():
            self.assertEqual(self.steady(starts_many, roster, seen), len(plain_starts(roster, seen)))
        for roster in mixed_rosters(3, 6, 7):
            for line in lines_of(roster)[::199]:
                servers, _ = follow(roster, line, roster.desks())
                seen = [(desk, sorted({server, roster.crew(desk)[0]})) for desk, server in zip(roster.desks(), servers)]
                for many in range(len(seen) + 1):
                    self.assertEqual(starts_many(roster, seen[:many]), len(plain_starts(roster, seen[:many])))

    def test_limits(self):
        for roster, seen in list(some_sightings())[::11]:
            needed = plain_many(roster, seen)
            self.assertEqual(starts_many(roster, seen, limit=needed), len(plain_starts(roster, seen)))
            if needed > 1:
                self.raises(TooMany(needed - 1), starts_many, roster, seen, limit=needed - 1)
                self.raises(TooMany(1), starts_many, roster, seen, limit=1)
        one = Roster(['a', 'b', 'c'], [('x', ['a', 'b', 'c'])])
        seen = [('x', ['a', 'b', 'c']), ('x', ['b'])]
        self.assertEqual(starts_many(one, seen, limit=3), 2)
        self.raises(TooMany(2), starts_many, one, seen, limit=2)

    def test_twelve_workers(self):
        workers = names(12)
        roster = Roster(workers, [('x', workers[:10]), ('y', workers[1:11]), ('z', workers[2:]), ('all', workers)])
        for desks, many in ((['x'], 10), (['x', 'y'], 19), (['x', 'y', 'z'], 37), (['x', 'y', 'all'], 19), (['all'], 12)):
            seen = whole(roster, desks)
            self.assertEqual(len(histories(roster, seen)), many)
            self.assertEqual(starts_many(roster, seen), factorial(12))
            self.assertEqual(starts_many(roster, seen, limit=many), factorial(12))
            self.raises(TooMany(many - 1), starts_many, roster, seen, limit=many - 1)
        self.assertEqual(starts_many(roster, []), factorial(12))
        self.assertEqual(starts_many(roster, [('all', workers[:5])]), factorial(12) * 5 // 12)
        self.assertEqual(starts_many(roster, [('x', workers[:5]), ('x', workers[4:10])]), factorial(12) // 10)
        self.assertEqual(starts_many(roster, [('x', ['waa']), ('x', ['wab'])]), 0)

    def test_twelve_workers_with_hundreds_of_histories(self):
        desks = []
        for at, letter in enumerate('abcd'):
            one, two, three = names(12)[3 * at:3 * at + 3]
            desks += [(letter, [one, two, three]), (letter + 'b', [two, three]), (letter + 'c', [one, two])]
        roster = Roster(names(12), desks)
        seen = whole(roster, [desk for desk, _ in desks])
        self.raises(TooMany(400), starts_many, roster, seen)
        self.raises(TooMany(624), starts_many, roster, seen, limit=624)
        for limit in (625, 1000):
            self.assertEqual(self.steady(starts_many, roster, seen, limit=limit), factorial(12))
            # The first worker of the first three does not serve: it is the last of them, or the second one is first.
            rest = [(desk, [name for name in crew if name != 'waa']) for desk, crew in seen]
            self.assertEqual(starts_many(roster, rest, limit=limit), factorial(12) // 2)

    def test_the_first_error(self):
        for many in (13, 20, 40):
            workers = names(many)
            roster = Roster(workers, [('x', workers)])
            for seen in ([], [('x', workers)], [('x', workers[:1])]):
                for limit in (1, 11, 12, 13, 1000):
                    self.raises(TooMany(12), starts_many, roster, seen, limit=limit)
                self.raises(TooMany(12), starts_many, roster, seen)
        roster = Roster(names(12), [('x', names(12))])
        self.raises(TooMany(11), starts_many, roster, [('x', names(12))], limit=11)
        self.assertEqual(starts_many(roster, [('x', names(12))], limit=12), factorial(12))

    def test_by_turns(self):
        self.by_turns(starts_many, [(first(), [('bc', ['bob', 'cid']), ('ab', ['ann'])]), (ring(), [('xy', ['y', 'x'])]),
                                    (first(), [('bc', ['bob'])]), (first(), [])])


if __name__ == '__main__':
    unittest.main()
