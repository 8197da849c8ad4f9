"""Tests of [43] to [45], and of what [6] and [7] say about live workers."""

import unittest

from deskkeepers.errors import NotLean, NotLive, TooMany
from deskkeepers.rosters import Roster
from deskkeepers.settling import ends, is_settled, lose, settle
from plain import Case, distances, is_plain_lean, plain_follow, plain_live, subsets
from samples import first, lines_of, mixed_rosters, names, ring, small_rosters, wide


def searched_rosters():
    """Rosters that are small enough to look at all lines to which calls lead."""
    return [first(), ring(), tempting(), Roster(['b', 'a'], []), *small_rosters(), *mixed_rosters(5, 4, 6),
            *mixed_rosters(2, 5, 5)]


def searched_lines(roster):
    """The lines of a roster from which the tests search: all of them, or some if they are many."""
    lines = lines_of(roster)
    return lines[::1 + len(lines) // 25]


def tempting():
    """A roster in which the worker g meets more crews than p and q, which together are enough."""
    return Roster(['x', 'g', 'p', 'q'], [('g', ['g']), ('p', ['p']), ('q', ['q']), ('pa', ['x', 'p', 'g']),
                                         ('pb', ['x', 'p', 'g']), ('pc', ['x', 'p']), ('qa', ['x', 'q', 'g']),
                                         ('qb', ['x', 'q', 'g']), ('qc', ['x', 'q'])])


def doubled(many, shared=('z',)):
    """Workers with a desk each alone, and the shared ones with one desk with each of them."""
    workers = names(many)
    desks = [('a' + name, [name]) for name in workers]
    return Roster([*workers, *shared], desks + [('b' + name, [name, *shared]) for name in workers])


class TestEnds(Case):
    def plain(self, roster, line):
        """The live sets, ascending, of the lines from which no calls change the live set."""
        lines = distances(roster, line)
        after = {line: {frozenset(plain_live(roster, list(far))) for far in distances(roster, list(line))}
                 for line in lines}
        return sorted({tuple(sorted(*sets)) for sets in after.values() if len(sets) == 1})

    def test_the_sets_that_stay_for_ever(self):
        for roster in searched_rosters():
            for line in searched_lines(roster)[:8]:
                found = self.steady(ends, roster, line)
                self.assertEqual(found, [list(some) for some in self.plain(roster, line)])

    def test_lean_covers_of_the_live_workers(self):
        for roster in searched_rosters():
            for line in lines_of(roster):
                live = sorted(plain_live(roster, line))
                self.assertEqual(ends(roster, line), sorted([some for some in subsets(live) if is_plain_lean(roster, some)]))

    def test_twelve_and_more_live_workers(self):
        for many in (12, 13, 14, 30):
            roster = doubled(many, [])
            if many == 12:
                self.assertEqual(self.steady(ends, roster, names(many)), [names(many)])
            else:
                self.raises(TooMany(12), ends, roster, names(many))
        roster = doubled(12)
        self.assertEqual(ends(roster, names(12) + ['z']), [names(12)])
        self.raises(TooMany(12), ends, roster, ['z'] + names(12))
        roster = Roster(names(40), [('d', names(40)), ('e', names(20))])
        self.assertEqual(ends(roster, names(40)), [['waa']])
        self.assertEqual(ends(roster, names(40)[::-1]), [['wat']])

    def test_without_desks(self):
        self.assertEqual(self.steady(ends, Roster(names(40), []), names(40)), [[]])

    def test_by_turns(self):
        self.by_turns(ends, [(first(), ['ann', 'bob', 'cid']), (ring(), ['x', 'y', 'z']), (first(), ['bob', 'cid', 'ann'])])


class TestIsSettled(Case):
    def test_all_lines_to_which_calls_lead(self):
        found = set()
        for roster in searched_rosters():
            for line in lines_of(roster):
                sets = {frozenset(plain_live(roster, list(far))) for far in distances(roster, line)}
                self.assertIs(self.steady(is_settled, roster, line), len(sets) == 1)
                found.add(len(sets) == 1)
        self.assertEqual(found, {True, False})

    def test_great_rosters(self):
        self.assertIs(is_settled(doubled(30), names(30) + ['z']), True)
        self.assertIs(is_settled(doubled(30), ['z'] + names(30)), False)
        self.assertIs(is_settled(doubled(30), names(29) + ['z', 'wbd']), False)
        self.assertIs(is_settled(Roster(names(40), []), names(40)), True)
        everyone = Roster(names(40), [(name, names(40)) for name in names(60, 'd')])
        self.assertIs(self.steady(is_settled, everyone, names(40)), True)
        self.assertIs(is_settled(wide(), names(40)), False)

    def test_by_turns(self):
        self.by_turns(is_settled, [(first(), ['ann', 'bob', 'cid']), (ring(), ['x', 'y', 'z']), (first(), ['bob', 'cid', 'ann'])])


class TestSettle(Case):
    def check(self, roster, line, cover, fewest):
        calls = self.steady(settle, roster, line, cover)
        self.assertEqual(sorted(plain_live(roster, plain_follow(roster, line, calls))), sorted(cover))
        self.assertEqual(len(calls), fewest)

    def test_all_sets_of_workers_against_a_search(self):
        for roster in searched_rosters():
            lean = [some for some in subsets(roster.workers()) if is_plain_lean(roster, some)]
            for line in searched_lines(roster):
                live = plain_live(roster, line)
                far = distances(roster, line)
                for cover in subsets(roster.workers()):
                    dead = [worker for worker in cover if worker not in live]
                    if cover not in lean:
                        self.raises(NotLean(), settle, roster, line, cover)
                    elif dead:
                        self.raises(NotLive(dead[0]), settle, roster, line, cover[::-1])
                    else:
                        fewest = min([many for after, many in far.items() if plain_live(roster, list(after)) == set(cover)])
                        self.check(roster, line, cover, fewest)
                        self.check(roster, line, cover[::-1], fewest)

    def test_a_worker_that_meets_many_crews_is_of_no_use(self):
        for line in (['x', 'g', 'p', 'q'], ['x', 'q', 'p', 'g'], ['x', 'p', 'g', 'q']):
            self.check(tempting(), line, ['g', 'p', 'q'], 2)
        self.check(tempting(), ['g', 'x', 'p', 'q'], ['q', 'g', 'p'], 2)

    def test_who_must_be_called_before_it_loses_its_last_desk(self):
        # Both members keep desks only until the other one is called, so the one ahead comes first.
        roster = Roster(['a', 'b', 'x'], [('ab', ['a', 'b']), ('ax', ['a', 'x']), ('bx', ['b', 'x']), ('b', ['b'])])
        self.check(roster, ['x', 'a', 'b'], ['a', 'b'], 2)
        roster = Roster(['a', 'b', 'x'], [('ab', ['a', 'b']), ('ax', ['a', 'x']), ('bx', ['b', 'x']), ('a', ['a'])])
        self.check(roster, ['x', 'b', 'a'], ['a', 'b'], 2)

    def test_no_calls(self):
        self.assertEqual(settle(first(), ['ann', 'cid', 'bob'], ['cid', 'ann']), [])
        self.assertEqual(settle(Roster(names(40), []), names(40), []), [])
        self.raises(NotLean(), settle, Roster(names(40), []), names(40), ['waa'])
        self.raises(NotLean(), settle, first(), ['ann', 'cid', 'bob'], [])

    def test_covers_of_twelve_and_of_more_workers(self):
        self.check(doubled(12), ['z'] + names(12), names(12), 12)
        self.check(doubled(12), names(11) + ['z', 'wal'], names(12)[::-1], 1)
        self.check(doubled(12), names(12) + ['z'], names(12), 0)
        for many in (13, 20, 30):
            self.raises(TooMany(12), settle, doubled(many), ['z'] + names(many), names(many))
            self.raises(TooMany(12), settle, doubled(many), names(many) + ['z'], names(many)[::-1])
        crews = [['z', *[name for at, name in enumerate(names(12)) if (at * step + at // 3) % 4 < 2]] for step in range(1, 40)]
        desks = [('a' + name, [name]) for name in names(12)] + list(zip(names(39, 'b'), crews))
        roster, line = Roster(['z', *names(12)], desks), ['z', *names(12)]
        fewest = min(len(some) for some in subsets(names(12)) if all(set(some) & set(crew) for crew in crews))
        self.check(roster, line, names(12), fewest)

    def test_the_order_of_the_errors(self):
        roster = Roster(names(20), [('d' + name, [name, 'wat']) for name in names(15)] + [('e', ['waa', 'wat'])])
        line = ['wat'] + names(19)
        self.raises(NotLean(), settle, roster, line, names(14))
        self.raises(NotLean(), settle, roster, line, names(16))
        self.raises(NotLean(), settle, roster, line, ['wap'])
        self.raises(NotLive('waa'), settle, roster, line, names(15)[::-1])
        self.raises(NotLive('waa'), settle, roster, line, names(15)[5:] + names(5))
        self.raises(TooMany(12), settle, roster, names(20), names(15))
        self.raises(NotLive('wat'), settle, roster, names(20), ['wat'])
        self.raises(NotLive('wao'), settle, roster, names(14) + ['wat', *names(19)[14:]], names(15))
        self.assertEqual(settle(roster, line, ['wat']), [])
        self.assertEqual(settle(first(), ['ann', 'bob', 'cid'], ['ann', 'cid']), ['c'])

    def test_by_turns(self):
        self.by_turns(settle, [(first(), ['ann', 'bob', 'cid'], ['ann', 'cid']), (tempting(), list('xgpq'), list('gpq')),
                               (first(), ['ann', 'bob', 'cid'], ['bob', 'cid'])])


class TestLose(Case):
    def test_all_workers_against_a_search(self):
        kinds = set()
        for roster in searched_rosters():
            for line in searched_lines(roster):
                live = plain_live(roster, line)
                far = distances(roster, line)
                for worker in roster.workers():
                    if worker not in live:
                        self.raises(NotLive(worker), lose, roster, line, worker)
                        continue
                    lost = [many for after, many in far.items() if worker not in plain_live(roster, list(after))]
                    kinds.add(self.check(roster, line, worker, min(lost, default=None)))
        self.assertEqual(kinds, {'safe', 'calls'})

    def check(self, roster, line, worker, fewest):
        found = self.steady(lose, roster, line, worker)
        self.assertIs(type(found), tuple)
        if fewest is None:
            live = plain_live(roster, line)
            own = [desk for desk in roster.desks() if set(roster.crew(desk)) & live == {worker}]
            self.assertEqual(found, ('safe', own[0]))
        else:
            kind, calls = found
            self.assertEqual([kind, len(calls)], ['calls', fewest])
            self.assertNotIn(worker, plain_live(roster, plain_follow(roster, line, calls)))
        return found[0]

    def test_a_worker_that_meets_many_crews_is_of_no_use(self):
        self.check(tempting(), ['x', 'g', 'p', 'q'], 'x', 2)
        self.check(tempting(), ['x', 'q', 'g', 'p'], 'x', 2)

    def test_the_least_own_desk(self):
        roster = Roster(['a', 'b'], [('z', ['a']), ('c', ['a', 'b']), ('y', ['a']), ('d', ['b'])])
        self.assertEqual(lose(roster, ['a', 'b'], 'a'), ('safe', 'y'))
        self.assertEqual(lose(roster, ['b', 'a'], 'a'), ('safe', 'y'))
        self.assertEqual(lose(roster, ['a', 'b'], 'b'), ('safe', 'd'))
        self.assertEqual(lose(Roster(['a', 'b'], [('c', ['a', 'b'])]), ['a', 'b'], 'a'), ('safe', 'c'))

    def test_twelve_and_more_live_workers(self):
        self.check(doubled(11), ['z'] + names(11), 'z', 11)
        self.assertEqual(lose(doubled(11), ['z'] + names(11), 'waa'), ('safe', 'awaa'))
        for many in (12, 13, 20, 30):
            roster = doubled(many)
            self.raises(TooMany(12), lose, roster, ['z'] + names(many), 'z')
            self.raises(TooMany(12), lose, roster, names(many)[1:] + ['z', 'waa'], 'z')
            self.assertEqual(lose(roster, ['z'] + names(many), 'wab'), ('safe', 'awab'))
            self.raises(NotLive('z'), lose, roster, names(many) + ['z'], 'z')

    def test_workers_that_are_not_live(self):
        self.raises(NotLive('bob'), lose, first(), ['ann', 'cid', 'bob'], 'bob')
        self.raises(NotLive('a'), lose, Roster(['a'], []), ['a'], 'a')
        self.raises(NotLive('b'), lose, Roster(['a', 'b'], [('x', ['a'])]), ['b', 'a'], 'b')

    def test_by_turns(self):
        self.by_turns(lose, [(first(), ['ann', 'bob', 'cid'], 'bob'), (tempting(), list('xgpq'), 'x'),
                             (first(), ['ann', 'bob', 'cid'], 'cid')])


class TestFuture(Case):
    def test_only_live_workers_ever_serve(self):
        for roster in [first(), ring(), *small_rosters()]:
            for line in lines_of(roster):
                later = set()
                for after in distances(roster, line):
                    later |= plain_live(roster, list(after))
                self.assertEqual(later, plain_live(roster, line))


if __name__ == '__main__':
    unittest.main()
