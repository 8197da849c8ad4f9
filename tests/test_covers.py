"""Tests of [40] to [42]."""

import unittest
from itertools import permutations

from deskkeepers.covers import is_cover, is_lean, lean_covers, live, own_desks
from deskkeepers.errors import TooMany
from deskkeepers.rosters import Roster
from plain import Case, is_plain_cover, is_plain_lean, plain_live, subsets
from samples import first, lines_of, mixed_rosters, names, ring, small_rosters, wide


def many_rosters():
    """Small rosters, and some with more workers and desks."""
    return [first(), ring(), Roster(['b', 'a'], []), *small_rosters(), *mixed_rosters(4, 5, 6), *mixed_rosters(4, 6, 4)]


def pairs(many):
    """Rosters of twice as many workers, each with a desk that it shares with one other."""
    workers = names(2 * many)
    crews = [[workers[at], workers[at + many]] for at in range(many)]
    return Roster(workers, list(zip(names(many, 'd'), crews)))


class TestLive(Case):
    def test_each_line_of_small_rosters(self):
        for roster in [first(), ring(), *small_rosters()]:
            for line in lines_of(roster):
                self.assertEqual(self.steady(live, roster, line), sorted(plain_live(roster, line)))

    def test_great_and_empty_rosters(self):
        for line in (names(40), names(40)[::-1], names(40)[11:] + names(40)[:11]):
            self.assertEqual(live(wide(), line), sorted(plain_live(wide(), line)))
        self.assertEqual(self.steady(live, Roster(['b', 'a'], []), ['b', 'a']), [])
        everyone = Roster(names(40), [('d' + name, [name]) for name in names(40)])
        self.assertEqual(live(everyone, names(40)[::-1]), names(40))
        self.assertEqual(live(Roster(names(40), [('d', ['waz'])]), names(40)), ['waz'])

    def test_by_turns(self):
        self.by_turns(live, [(first(), ['ann', 'bob', 'cid']), (ring(), ['z', 'y', 'x']), (first(), ['cid', 'bob', 'ann'])])


class TestCovers(Case):
    def test_all_sets_of_workers(self):
        for roster in many_rosters():
            for workers in subsets(roster.workers()):
                cover = is_plain_cover(roster, workers)
                lean = is_plain_lean(roster, workers)
                self.assertIs(self.steady(is_cover, roster, workers), cover)
                self.assertIs(self.steady(is_cover, roster, workers[::-1]), cover)
                self.assertIs(self.steady(is_lean, roster, workers), lean)
                self.assertIs(self.steady(is_lean, roster, workers[::-1]), lean)

    def test_no_workers_and_no_desks(self):
        bare = Roster(['a', 'b'], [])
        self.assertEqual([is_cover(bare, some) for some in ([], ['a'], ['b', 'a'])], [True, True, True])
        self.assertEqual([is_lean(bare, some) for some in ([], ['a'], ['b', 'a'])], [True, False, False])
        self.assertEqual([is_cover(first(), []), is_lean(first(), [])], [False, False])
        self.assertEqual([is_cover(wide(), names(40)), is_lean(wide(), names(40))], [True, False])

    def test_forty_workers(self):
        everyone = Roster(names(40), [('d' + name, [name]) for name in names(40)])
        self.assertEqual([is_cover(everyone, names(40)), is_lean(everyone, names(40)[::-1])], [True, True])
        self.assertEqual([is_cover(everyone, names(39)), is_lean(everyone, names(39))], [False, False])
        self.assertEqual([is_cover(pairs(20), names(20)), is_lean(pairs(20), names(20)[::-1])], [True, True])
        self.assertEqual([is_cover(pairs(20), names(21)), is_lean(pairs(20), names(21))], [True, False])

    def test_a_worker_of_no_crew_is_in_no_lean_cover(self):
        roster = Roster(['a', 'b', 'c'], [('x', ['a', 'b'])])
        self.assertEqual([is_cover(roster, ['a', 'c']), is_lean(roster, ['a', 'c']), is_lean(roster, ['a'])],
                         [True, False, True])

    def test_by_turns(self):
        for function in (is_cover, is_lean):
            self.by_turns(function, [(first(), ['ann', 'cid']), (ring(), ['x', 'y', 'z']), (first(), ['ann']),
                                     (first(), ['cid', 'ann', 'bob'])])


class TestOwnDesks(Case):
    def test_all_sets_of_workers(self):
        for roster in many_rosters():
            for workers in subsets(roster.workers()):
                for worker in workers:
                    wanted = [desk for desk in roster.desks() if set(roster.crew(desk)) & set(workers) == {worker}]
                    self.assertEqual(self.steady(own_desks, roster, workers, worker), wanted)
                    self.assertEqual(own_desks(roster, workers[::-1], worker), wanted)

    def test_ascending_order(self):
        roster = Roster(['a', 'b', 'c'], [('zz', ['a']), ('m', ['b']), ('z', ['c', 'a']), ('b', ['a', 'b']), ('aa', ['a'])])
        self.assertEqual(own_desks(roster, ['a', 'b', 'c'], 'a'), ['aa', 'zz'])
        self.assertEqual(own_desks(roster, ['c', 'a'], 'a'), ['aa', 'b', 'zz'])
        self.assertEqual(own_desks(roster, ['a'], 'a'), ['aa', 'b', 'z', 'zz'])
        self.assertEqual(own_desks(roster, ['a', 'c'], 'c'), [])
        self.assertEqual(own_desks(Roster(['a'], []), ['a'], 'a'), [])

    def test_by_turns(self):
        self.by_turns(own_desks, [(first(), ['ann', 'cid'], 'cid'), (ring(), ['x', 'y'], 'x'), (first(), ['cid'], 'cid')])


class TestLeanCovers(Case):
    def plain(self, roster, workers):
        return sorted([sorted(some) for some in subsets(workers) if is_plain_lean(roster, some)])

    def test_all_sets_of_workers(self):
        for roster in many_rosters():
            for workers in subsets(roster.workers()):
                wanted = self.plain(roster, workers)
                self.assertEqual(self.steady(lean_covers, roster, workers), wanted)
                self.assertEqual(self.steady(lean_covers, roster, workers[::-1]), wanted)

    def test_any_order_of_the_workers(self):
        for workers in permutations(['ann', 'bob', 'cid']):
            self.assertEqual(lean_covers(first(), list(workers)), [['ann', 'cid'], ['bob', 'cid']])

    def test_the_order_is_that_of_lists(self):
        roster = Roster(list('abcd'), [('x', ['a', 'd']), ('y', ['b', 'd']), ('z', ['c', 'd'])])
        self.assertEqual(lean_covers(roster, list('dcba')), [['a', 'b', 'c'], ['d']])
        roster = Roster(list('abcd'), [('x', ['a', 'b']), ('y', ['c', 'd']), ('z', ['a', 'c'])])
        self.assertEqual(lean_covers(roster, list('dbca')), [['a', 'c'], ['a', 'd'], ['b', 'c']])

    def test_without_desks(self):
        bare = Roster(names(13), [])
        for some in ([], names(1), names(12)):
            self.assertEqual(self.steady(lean_covers, bare, some), [[]])
        self.raises(TooMany(12), lean_covers, bare, names(13))

    def test_workers_that_cover_nothing(self):
        roster = Roster(names(40), [('x', ['wbn']), ('y', names(40))])
        self.assertEqual(self.steady(lean_covers, roster, names(12)), [])
        self.assertEqual(lean_covers(roster, []), [])
        self.raises(TooMany(12), lean_covers, roster, names(13))
        self.raises(TooMany(12), lean_covers, roster, names(39))
        self.assertEqual(lean_covers(roster, ['wbn', *names(11)]), [['wbn']])

    def test_twelve_and_thirteen_workers(self):
        found = self.steady(lean_covers, pairs(6), names(12)[::-1])
        self.assertEqual(len(found), 2 ** 6)
        self.assertEqual(found, sorted(found))
        self.assertEqual(found[0], names(6))
        self.assertTrue(all(cover == sorted(cover) and is_lean(pairs(6), cover) for cover in found))
        self.assertEqual(lean_covers(pairs(20), names(12)), [])
        for many in (13, 20, 40):
            self.raises(TooMany(12), lean_covers, pairs(20), names(many))
            self.raises(TooMany(12), lean_covers, wide(), names(40)[-many:])
        chosen = sorted(plain_live(wide(), names(40)))[:12]
        self.assertEqual(lean_covers(wide(), chosen), [])
        every = Roster(names(12), [(name, names(12)) for name in names(60, 'd')])
        self.assertEqual(lean_covers(every, names(12)), [[name] for name in names(12)])

    def test_sixty_desks(self):
        roster = mixed_rosters(1, 8, 60)[0]
        self.assertEqual(lean_covers(roster, roster.workers()), self.plain(roster, roster.workers()))

    def test_by_turns(self):
        self.by_turns(lean_covers, [(first(), ['ann', 'bob', 'cid']), (ring(), ['x', 'y', 'z']), (first(), ['ann', 'bob']),
                                    (first(), ['cid', 'bob'])])


if __name__ == '__main__':
    unittest.main()
