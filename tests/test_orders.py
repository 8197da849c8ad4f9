"""Tests of [36] and [37], and of the first sentence of [5]."""

import unittest
from itertools import combinations, permutations, product

from deskkeepers.errors import TooMany
from deskkeepers.orders import arrange, arrangements, is_cycle
from deskkeepers.rosters import Roster
from plain import Case, meets, plain_keepers, wishes_of
from samples import Odd, first, lines_of, mixed_rosters, names, nested, odd_values, ring, small_rosters, wide


def two():
    """Two workers that share two desks."""
    return Roster(['ann', 'bob'], [('x', ['ann', 'bob']), ('y', ['ann', 'bob'])])


def round_of(many):
    """As many workers, each sharing one desk with the next one, and wishes for the first of each two."""
    workers = names(many)
    pairs = list(zip(workers, workers[1:] + workers[:1]))
    desks = list(zip(names(many, 'd'), [list(pair) for pair in pairs]))
    return Roster(workers, desks), [(desk, crew[0]) for desk, crew in desks]


def is_plain_cycle(roster, wishes, workers):
    """A cycle by its definition."""
    if len(workers) < 2 or len(set(workers)) < len(workers):
        return False
    for at, worker in enumerate(workers):
        after = workers[(at + 1) % len(workers)]
        if not any(given == worker and after in roster.crew(desk) for desk, given in wishes):
            return False
    return True


def rotations(things):
    """All rotations of a list."""
    return [things[at:] + things[:at] for at in range(len(things))]


class TestArrange(Case):
    def check(self, roster, wishes):
        found = self.steady(arrange, roster, wishes)
        self.assertIs(type(found), tuple)
        lines = [line for line in lines_of(roster) if meets(plain_keepers(roster, line), wishes)]
        if lines:
            self.assertEqual(found, ('line', min(lines)))
        else:
            self.assertEqual([found[0], len(found)], ['cycle', 2])
            self.assertTrue(is_plain_cycle(roster, wishes, found[1]))
            self.assertIs(is_cycle(roster, wishes, found[1]), True)
        return found[0]

    def test_all_wishes_of_small_rosters(self):
        kinds = set()
        for roster in [first(), two(), Roster(['a'], [('x', ['a'])]), *small_rosters()]:
            for wishes in wishes_of(roster):
                kinds.add(self.check(roster, wishes))
                self.check(roster, wishes[::-1])
        self.assertEqual(kinds, {'line', 'cycle'})

    def test_wishes_for_all_desks_of_the_ring(self):
        for wishes in wishes_of(ring()):
            self.check(ring(), wishes)
        cyclic = [('x', 'x'), ('xy', 'x'), ('y', 'y'), ('yz', 'y'), ('z', 'z'), ('zx', 'z')]
        kind, cycle = arrange(ring(), cyclic)
        self.assertEqual(kind, 'cycle')
        self.assertIn(cycle, rotations(['x', 'y', 'z']))

    def test_five_workers(self):
        for roster in mixed_rosters(4, 5, 4):
            for wishes in wishes_of(roster):
                self.check(roster, wishes)

    def test_no_wishes(self):
        self.assertEqual(arrange(first(), []), ('line', ['ann', 'bob', 'cid']))
        self.assertEqual(arrange(Roster(['c', 'a', 'b'], []), []), ('line', ['a', 'b', 'c']))
        self.assertEqual(arrange(wide(), []), ('line', names(40)))

    def test_workers_of_no_crew_stand_where_the_least_line_has_them(self):
        roster = Roster(['a', 'b', 'c', 'd'], [('x', ['a', 'd'])])
        self.assertEqual(arrange(roster, [('x', 'd')]), ('line', ['b', 'c', 'd', 'a']))
        self.assertEqual(arrange(roster, [('x', 'a')]), ('line', ['a', 'b', 'c', 'd']))

    def test_the_least_line_is_not_the_one_with_the_great_ones_at_the_end(self):
        roster = Roster(['a', 'b', 'c', 'd'], [('x', ['a', 'd']), ('y', ['b', 'c'])])
        self.assertEqual(arrange(roster, [('x', 'd'), ('y', 'c')]), ('line', ['c', 'b', 'd', 'a']))

    def test_a_cycle_among_workers_that_are_behind_and_before_others(self):
        desks = [('d' + pair, list(pair)) for pair in ('ab', 'bc', 'cd', 'db', 'de', 'fb')]
        roster = Roster(list('abcdef'), desks)
        wishes = [(desk, desk[1]) for desk, crew in desks]
        kind, cycle = self.steady(arrange, roster, wishes)
        self.assertEqual(kind, 'cycle')
        self.assertIn(cycle, rotations(['b', 'c', 'd']))

    def test_cycles_of_each_length(self):
        for many in (2, 3, 4, 7, 39, 40):
            roster, wishes = round_of(many)
            kind, cycle = self.steady(arrange, roster, wishes)
            self.assertEqual(kind, 'cycle')
            self.assertIn(cycle, rotations(names(many)))
            self.assertIs(is_cycle(roster, wishes, cycle), True)

    def test_great_rosters(self):
        roster, wishes = round_of(40)
        self.assertEqual(arrange(roster, wishes[:-1]), ('line', names(40)))
        self.assertEqual(arrange(roster, wishes[:4] + wishes[5:]), ('line', names(40)[5:] + names(40)[:5]))
        line = [names(40)[at * 7 % 40] for at in range(40)]
        kind, found = self.steady(arrange, wide(), plain_keepers(wide(), line))
        self.assertEqual(kind, 'line')
        self.assertEqual(plain_keepers(wide(), found), plain_keepers(wide(), line))
        self.assertLessEqual(found, line)
        full = Roster(names(40), [(name, names(40)) for name in names(60, 'd')])
        self.assertEqual(arrange(full, [('daa', 'wbn')]), ('line', ['wbn'] + names(39)))
        self.assertEqual(arrange(full, [(name, 'wbn') for name in names(60, 'd')]), ('line', ['wbn'] + names(39)))
        kind, cycle = arrange(full, list(zip(names(60, 'd'), names(40) + names(20))))
        self.assertEqual(kind, 'cycle')
        self.assertIs(is_cycle(full, list(zip(names(60, 'd'), names(40) + names(20))), cycle), True)

    def test_by_turns(self):
        self.by_turns(arrange, [(first(), [('ab', 'bob')]), (two(), [('x', 'ann'), ('y', 'bob')]), (first(), []),
                                (ring(), []), (two(), [('x', 'bob')])])


class TestIsCycle(Case):
    def test_all_lists_of_workers_of_small_rosters(self):
        for roster in [first(), two(), *small_rosters()]:
            for wishes in wishes_of(roster):
                for many in range(5):
                    for workers in product(roster.workers(), repeat=many):
                        wanted = is_plain_cycle(roster, wishes, list(workers))
                        self.assertIs(is_cycle(roster, wishes, list(workers)), wanted)

    def test_rotations_and_changes_of_cycles(self):
        for many in (3, 4, 7, 40):
            roster, wishes = round_of(many)
            for cycle in rotations(names(many)):
                self.assertIs(is_cycle(roster, wishes, cycle), True)
                self.assertIs(is_cycle(roster, wishes, cycle[::-1]), False)
                self.assertIs(is_cycle(roster, wishes, cycle[1:]), False)
                self.assertIs(is_cycle(roster, wishes, cycle[:-1]), False)
                self.assertIs(is_cycle(roster, wishes, cycle + cycle[:1]), False)
                self.assertIs(is_cycle(roster, wishes, cycle + cycle), False)
                self.assertIs(is_cycle(roster, wishes, cycle[1:2] + cycle[:1] + cycle[2:]), False)
                self.assertIs(is_cycle(roster, wishes, ['no'] + cycle[1:]), False)
                self.assertIs(is_cycle(roster, wishes, cycle[:-1] + ['no']), False)
                self.assertIs(is_cycle(roster, wishes, cycle[:1]), False)
                self.assertIs(is_cycle(roster, wishes, tuple(cycle)), False)
            self.assertIs(is_cycle(roster, wishes[1:], names(many)), False)
            self.assertIs(is_cycle(roster, wishes[::-1], names(many)), True)
            self.assertIs(is_cycle(roster, [], names(many)), False)

    def test_shorter_and_longer_cycles_of_the_same_wishes(self):
        desks = [(first + second, [first, second]) for first, second in permutations('abc', 2)]
        roster = Roster(list('abc'), desks)
        wishes = [(desk, desk[0]) for desk, crew in desks]
        for many in (2, 3):
            for workers in permutations('abc', many):
                self.assertIs(is_cycle(roster, wishes, list(workers)), True)
        one = Roster(list('abc'), [('x', list('abc')), ('y', list('abc'))])
        self.assertIs(is_cycle(one, [('x', 'c'), ('y', 'a')], ['a', 'c']), True)
        self.assertIs(is_cycle(one, [('x', 'c'), ('y', 'a')], ['a', 'b']), False)
        self.assertIs(is_cycle(one, [('x', 'c'), ('y', 'a')], ['a', 'b', 'c']), False)

    def test_other_values(self):
        wishes = [('x', 'ann'), ('y', 'bob')]
        self.assertIs(is_cycle(two(), wishes, ['ann', 'bob']), True)
        self.assertIs(is_cycle(two(), wishes, ['ann']), False)
        others = [('ann', 'bob'), {'ann', 'bob'}, {'ann': 'bob', 'bob': 'ann'}, 'annbob', 'ann bob', ['ann', None],
                  ['ann', ['bob']], [['ann'], ['bob']], ['ann', 'bob', None], ['ann', b'bob'], ['ann', Odd()],
                  [Odd(), 'bob'], [Odd(), Odd()], ['ann', ('bob',)], [['ann', 'bob']], (['ann', 'bob'],), ['ann', {}],
                  ['ann', True], [0, 1], ['Ann', 'Bob'], ['ann', 'bob '], ['x', 'y'], ['ann', 'y'],
                  ('cycle', ['ann', 'bob']), ['ann', 'bob'] * 20000, names(676), iter(['ann', 'bob']), nested(20)]
        for thing in others + odd_values():
            self.assertIs(is_cycle(two(), wishes, thing), False, repr(thing)[:80])
            self.assertIs(is_cycle(two(), [], thing), False, repr(thing)[:80])
            self.assertIs(is_cycle(Roster(['a'], []), [], thing), False, repr(thing)[:80])

    def test_things_stay_as_they_are(self):
        wishes = [('x', 'ann'), ('y', 'bob')]
        for thing in (['ann', 'bob'], ['ann', ['bob']], [['ann'], {'bob': []}], ['bob', 'ann', 'cid']):
            self.steady(is_cycle, two(), wishes, thing)
        self.by_turns(is_cycle, [(two(), wishes, ['ann', 'bob']), (two(), wishes[:1], ['ann', 'bob']),
                                 (first(), [('ab', 'ann')], ['ann', 'bob']), (two(), wishes, ['bob', 'ann'])])


class TestArrangements(Case):
    def plain(self, roster):
        return len({tuple(plain_keepers(roster, line)) for line in lines_of(roster)})

    def test_small_rosters(self):
        for roster in [first(), two(), ring(), *small_rosters()]:
            self.assertEqual(self.steady(arrangements, roster), self.plain(roster))

    def test_four_to_six_workers(self):
        for roster in mixed_rosters(30, 4, 5) + mixed_rosters(10, 5, 7) + mixed_rosters(2, 6, 8) + mixed_rosters(2, 6, 3):
            self.assertEqual(arrangements(roster), self.plain(roster))
        for sizes in ((2, 3), (3, 4), (4, 5), (2, 5), (1, 2, 3, 4, 5)):
            crews = [list(crew) for many in sizes for crew in combinations('abcde', many)]
            roster = Roster(list('abcde'), list(zip(names(len(crews), 'd'), crews)))
            self.assertEqual(arrangements(roster), self.plain(roster))

    def test_eight_workers(self):
        eight = list('abcdefgh')
        pairs = [list(pair) for pair in combinations(eight, 2)]
        self.assertEqual(arrangements(Roster(eight, list(zip(names(28, 'd'), pairs)))), 40320)
        rows = [list(pair) for pair in zip(eight, eight[1:])]
        self.assertEqual(arrangements(Roster(eight, list(zip(names(7, 'd'), rows)))), 2 ** 7)
        self.assertEqual(arrangements(Roster(eight, list(zip(names(8, 'd'), rows + [['h', 'a']])))), 2 ** 8 - 2)
        self.assertEqual(arrangements(Roster(eight, [('d', eight)])), 8)
        self.assertEqual(arrangements(Roster(eight, [(name, eight) for name in names(60, 'd')])), 8)
        self.assertEqual(arrangements(Roster(eight, [('d' + name, [name]) for name in eight])), 1)
        halves = [list(crew) for crew in combinations(eight, 4)][:60]
        roster = Roster(eight, list(zip(names(60, 'd'), halves)))
        self.assertEqual(arrangements(roster), self.plain(roster))

    def test_eight_and_nine_workers_in_crews(self):
        for many in (8, 9, 10, 20, 40):
            desks = [('d' + name, [name]) for name in names(8)]
            self.assertEqual(arrangements(Roster(names(many), desks + [('all', names(8))])), 8)
            self.assertEqual(arrangements(Roster(names(many)[::-1], desks)), 1)
        for many in (9, 10, 20, 40):
            self.raises(TooMany(8), arrangements, Roster(names(many), [('all', names(9))]))
            self.raises(TooMany(8), arrangements, Roster(names(many), [('d' + name, [name]) for name in names(9)]))
        self.raises(TooMany(8), arrangements, wide())
        self.assertEqual(arrangements(first()), 4)

    def test_without_desks(self):
        for many in (1, 8, 9, 40):
            self.assertEqual(arrangements(Roster(names(many), [])), 1)

    def test_by_turns(self):
        self.by_turns(arrangements, [(first(),), (ring(),), (two(),)])


if __name__ == '__main__':
    unittest.main()
