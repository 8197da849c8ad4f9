"""Tests of [70] to [73]."""

import unittest
from itertools import permutations, product

from deskkeepers.comparing import compare, depth, heads, nearest
from deskkeepers.lines import follow
from deskkeepers.rosters import Roster
from plain import Case, plain_keeper, plain_serve, subsets
from samples import first, lines_of, mixed_rosters, names, ring, small_rosters, wide


def some_rosters():
    """Rosters of three to five workers."""
    return [first(), ring(), *small_rosters(), *mixed_rosters(6, 4, 4), *mixed_rosters(2, 5, 5)]


def without(roster, line, retired):
    """The roster and the line after retirements, or None and no line if nobody is left."""
    rest = [worker for worker in line if worker not in retired]
    return (roster.cut(rest), rest) if rest else (None, [])


def keeper_without(roster, line, retired, desk):
    """The keeper of a desk after retirements, or None if the desk is closed."""
    cut, rest = without(roster, line, retired)
    return None if cut is None or desk not in cut.desks() else plain_keeper(cut, rest, desk)


def plain_compare(roster, line, other, retirements):
    """The answer of [71], all choices of retired workers and all desks gone through."""
    for many in range(retirements + 1):
        for desk in roster.desks():
            found = [retired for retired in subsets(line) if len(retired) == many
                     and keeper_without(roster, line, retired, desk) != keeper_without(roster, other, retired, desk)]
            if found:
                # The keepers of a desk that stays open differ; a desk is closed for both lines or for none.
                return 'apart', found[0], desk, len(found)
    return ('alike',)


def plain_nearest(roster, line, worker):
    """The answer of [72], all choices of retired workers and all desks gone through."""
    for many, desk in product(range(len(line)), roster.desks()):
        found = [retired for retired in subsets(line) if len(retired) == many
                 and keeper_without(roster, line, retired, desk) == worker]
        if found:
            return many, found, desk
    return None


def told_apart(roster, line, other, retirements, longest):
    """Whether some deeds, calls and at most so many retirements, end with a call of different servers."""
    if any(plain_keeper(roster, line, desk) != plain_keeper(roster, other, desk) for desk in roster.desks()):
        return True
    if longest == 0:
        return False
    for desk in roster.desks():
        if told_apart(roster, plain_serve(roster, line, desk)[1], plain_serve(roster, other, desk)[1], retirements, longest - 1):
            return True
    for worker in line if retirements and len(line) > 1 else []:
        cut, rest = without(roster, line, [worker])
        if told_apart(cut, rest, without(roster, other, [worker])[1], retirements - 1, longest - 1):
            return True
    return False


class TestHeads(Case):
    def test_against_the_line(self):
        for roster in some_rosters():
            for line in lines_of(roster)[::5]:
                for many in (0, 1, 2, 3, 4, 39, 40):
                    wanted = [(desk, sorted(roster.crew(desk), key=line.index)[:many]) for desk in roster.desks()]
                    self.assertEqual(self.steady(heads, roster, line, many), wanted)

    def test_sizes_about_that_of_the_crew(self):
        one = Roster(['a', 'b', 'c', 'd'], [('all', ['a', 'b', 'c', 'd']), ('some', ['d', 'b']), ('c', ['c'])])
        line = ['d', 'c', 'a', 'b']
        self.assertEqual(heads(one, line, 0), [('all', []), ('c', []), ('some', [])])
        self.assertEqual(heads(one, line, 1), [('all', ['d']), ('c', ['c']), ('some', ['d'])])
        self.assertEqual(heads(one, line, 2), [('all', ['d', 'c']), ('c', ['c']), ('some', ['d', 'b'])])
        self.assertEqual(heads(one, line, 3), [('all', ['d', 'c', 'a']), ('c', ['c']), ('some', ['d', 'b'])])
        for many in (4, 5, 40):
            self.assertEqual(heads(one, line, many), [('all', line), ('c', ['c']), ('some', ['d', 'b'])])

    def test_great_rosters_and_no_desks(self):
        full = Roster(names(40), [(name, names(40)) for name in names(60, 'd')])
        line = names(40)[20:] + names(40)[:20]
        for many in (0, 1, 39, 40):
            self.assertEqual(self.steady(heads, full, line, many), [(name, line[:many]) for name in names(60, 'd')])
            self.assertEqual(heads(Roster(['a', 'b'], []), ['b', 'a'], many), [])

    def test_by_turns(self):
        self.by_turns(heads, [(first(), ['ann', 'bob', 'cid'], 1), (first(), ['ann', 'bob', 'cid'], 2), (ring(), ['z', 'x', 'y'], 2),
                              (first(), ['cid', 'bob', 'ann'], 2)])


class TestCompare(Case):
    def test_against_all_choices_of_retirements(self):
        sizes = set()
        for roster in some_rosters():
            lines = lines_of(roster)
            for line, other in list(product(lines, repeat=2))[::1 if len(lines) < 7 else 61]:
                for retirements in (0, 1, 2, 3, 40):
                    wanted = plain_compare(roster, line, other, min(retirements, len(line)))
                    found = self.steady(compare, roster, line, other, retirements)
                    self.assertEqual(found, wanted[:3])
                    if wanted[0] == 'apart':
                        self.assertEqual(wanted[3], 1)
                        sizes.add(len(found[1]))
                        needed = len(found[1])
                        self.assertEqual(compare(roster, line, other, needed), found)
                        if needed:
                            self.assertEqual(compare(roster, line, other, needed - 1), ('alike',))
        self.assertEqual(sizes, {0, 1})
        deep = Roster(['a', 'b', 'c', 'd'], [('x', ['a', 'b', 'c', 'd']), ('y', ['b', 'c', 'd'])])
        for line, other in product(lines_of(deep), repeat=2):
            for retirements in range(5):
                self.assertEqual(compare(deep, line, other, retirements), plain_compare(deep, line, other, retirements)[:3])

    def test_calls_between_retirements_do_not_help(self):
        for roster in (first(), ring(), *small_rosters()[20:50:7], Roster(['a', 'b', 'c', 'd'], [('x', ['a', 'b', 'c']), ('y', ['b', 'c', 'd'])])):
            lines = lines_of(roster)
            for line, other in list(product(lines, repeat=2))[::1 if len(lines) < 7 else 53]:
                for retirements in range(3):
                    self.assertEqual(compare(roster, line, other, retirements) != ('alike',),
                                     told_apart(roster, line, other, retirements, 3))

    def test_the_least_desk_for_which_the_fewest_are_enough(self):
        one = Roster(['a', 'b', 'c', 'd'], [('k', ['a', 'b', 'c', 'd']), ('l', ['b', 'c', 'd']), ('m', ['c', 'd']), ('n', ['c', 'd', 'a'])])
        self.assertEqual(compare(one, ['a', 'b', 'c', 'd'], ['a', 'b', 'd', 'c'], 0), ('apart', [], 'm'))
        two = one.cut(['a', 'b', 'c', 'd'])
        rest = Roster(['a', 'b', 'c', 'd'], [(desk, two.crew(desk)) for desk in ('k', 'l', 'n')])
        self.assertEqual(compare(rest, ['a', 'b', 'c', 'd'], ['a', 'b', 'd', 'c'], 40), ('apart', ['b'], 'l'))
        self.assertEqual(compare(rest, ['b', 'a', 'c', 'd'], ['b', 'a', 'd', 'c'], 1), ('apart', ['b'], 'l'))
        self.assertEqual(compare(rest, ['b', 'a', 'c', 'd'], ['b', 'a', 'd', 'c'], 0), ('alike',))
        whole = Roster(['a', 'b', 'c', 'd'], [('z', ['a', 'b', 'c', 'd']), ('k', ['d', 'c', 'b', 'a'])])
        for line in permutations('abcd'):
            other = [*line[:2], line[3], line[2]]
            for retirements in (2, 3, 4, 40):
                self.assertEqual(compare(whole, list(line), other, retirements), ('apart', list(line[:2]), 'k'))
            self.assertEqual(compare(whole, list(line), other, 1), ('alike',))

    def test_the_same_line_and_workers_without_desks(self):
        for roster in [*some_rosters(), wide()]:
            line = roster.workers()[::-1]
            for retirements in (0, 1, 40):
                self.assertEqual(compare(roster, line, list(line), retirements), ('alike',))
        for line, other in product(lines_of(first()), repeat=2):
            self.assertEqual(compare(Roster(['ann', 'bob', 'cid'], []), line, other, 40), ('alike',))
        one = Roster(['a', 'b', 'c'], [('x', ['b'])])
        for line, other in product(lines_of(one), repeat=2):
            self.assertEqual(compare(one, line, other, 40), ('alike',))

    def test_great_rosters(self):
        full = Roster(names(40), [(name, names(40)) for name in names(60, 'd')])
        line = names(40)
        other = names(40)[:38] + ['wbn', 'wbm']
        self.assertEqual(self.steady(compare, full, line, other, 38), ('apart', names(40)[:38], 'daa'))
        self.assertEqual(compare(full, line, other, 40), ('apart', names(40)[:38], 'daa'))
        self.assertEqual(compare(full, line, other, 37), ('alike',))
        self.assertEqual(compare(full, line, line[::-1], 0), ('apart', [], 'daa'))
        self.assertEqual(compare(wide(), line, line[::-1], 0)[:2], ('apart', []))

    def test_by_turns(self):
        abc, acb, cab = ['ann', 'bob', 'cid'], ['ann', 'cid', 'bob'], ['cid', 'ann', 'bob']
        self.by_turns(compare, [(first(), abc, acb, 0), (first(), acb, abc, 1), (first(), acb, cab, 5), (ring(), ['x', 'y', 'z'], ['y', 'x', 'z'], 0)])


class TestDepth(Case):
    def test_against_all_choices_of_retirements(self):
        depths = set()
        for roster in some_rosters():
            for line in lines_of(roster)[::3]:
                for worker in roster.workers():
                    found = self.steady(depth, roster, line, worker)
                    near = self.steady(nearest, roster, line, worker)
                    wanted = plain_nearest(roster, line, worker)
                    depths.add(found)
                    if wanted is None:
                        self.assertEqual([found, near, roster.desks_of(worker)], [None, None, []])
                        continue
                    many, choices, desk = wanted
                    self.assertEqual(found, many)
                    self.assertIs(type(near), tuple)
                    self.assertEqual(near, (choices[0], desk))
                    self.assertEqual(len(choices), 1)
        self.assertEqual(depths, {None, 0, 1, 2})

    def test_workers_of_no_crew_and_live_workers(self):
        one = Roster(['a', 'b', 'c'], [('y', ['b', 'a']), ('x', ['a'])])
        for line in lines_of(one):
            self.assertEqual([depth(one, line, 'c'), nearest(one, line, 'c')], [None, None])
            self.assertEqual([depth(one, line, 'a'), depth(one, line, 'b')], [0, 0 if line.index('b') < line.index('a') else 1])
        self.assertEqual(nearest(one, ['b', 'a', 'c'], 'a'), ([], 'x'))
        self.assertEqual(nearest(one, ['c', 'a', 'b'], 'a'), ([], 'x'))
        self.assertEqual(nearest(one, ['c', 'b', 'a'], 'b'), ([], 'y'))
        self.assertEqual(nearest(one, ['a', 'c', 'b'], 'b'), (['a'], 'y'))

    def test_the_least_desk_and_the_order_of_the_line(self):
        one = Roster(['a', 'b', 'c', 'd'], [('k', ['a', 'b', 'c', 'd']), ('m', ['c', 'b', 'd']), ('l', ['a', 'c', 'd'])])
        self.assertEqual(nearest(one, ['b', 'a', 'c', 'd'], 'd'), (['a', 'c'], 'l'))
        self.assertEqual(nearest(one, ['c', 'b', 'd', 'a'], 'd'), (['c'], 'l'))
        self.assertEqual(nearest(one, ['b', 'a', 'd', 'c'], 'd'), (['a'], 'l'))
        self.assertEqual(nearest(one, ['a', 'b', 'c', 'd'], 'b'), ([], 'm'))

    def test_great_rosters(self):
        full = Roster(names(40), [(name, names(40)) for name in names(60, 'd')])
        line = names(40)[::-1]
        for at, worker in enumerate(line):
            self.assertEqual(depth(full, line, worker), at)
            self.assertEqual(nearest(full, line, worker), (line[:at], 'daa'))
        for worker in names(40):
            near = nearest(wide(), line, worker)
            self.assertEqual(depth(wide(), line, worker), None if near is None else len(near[0]))

    def test_after_calls_and_retirements(self):
        dropped = set()
        for roster in some_rosters():
            for line in lines_of(roster)[::4]:
                before = {worker: depth(roster, line, worker) for worker in line}
                for desk in roster.desks():
                    server, after = plain_serve(roster, line, desk)
                    for worker in line:
                        if worker == server:
                            self.assertEqual([before[worker], depth(roster, after, worker)], [0, 0])
                        elif before[worker] is not None:
                            self.assertGreaterEqual(depth(roster, after, worker), before[worker])
                for retired in line:
                    cut, rest = without(roster, line, [retired])
                    for worker in rest:
                        if before[worker] is not None:
                            dropped.add(before[worker] - depth(cut, rest, worker))
        self.assertEqual(dropped, {0, 1})

    def test_the_fewest_retirements_wherever_the_calls_stand(self):
        one = Roster(['a', 'b', 'c', 'd'], [('x', ['a', 'b', 'c', 'd']), ('y', ['b', 'c']), ('z', ['c', 'd', 'a'])])

        def fewest(roster, line, worker, longest):
            """The fewest retirements among so many deeds after which the worker serves."""
            if worker in [plain_keeper(roster, line, desk) for desk in roster.desks()]:
                return 0
            if longest == 0:
                return 99
            ways = [fewest(roster, follow(roster, line, [desk])[1], worker, longest - 1) for desk in roster.desks()]
            for retired in line:
                if retired != worker:
                    ways.append(1 + fewest(*without(roster, line, [retired]), worker, longest - 1))
            return min(ways)

        for line in lines_of(one)[::2]:
            for worker in line:
                self.assertEqual(depth(one, line, worker), fewest(one, line, worker, 3))

    def test_by_turns(self):
        acb, cba = ['ann', 'cid', 'bob'], ['cid', 'bob', 'ann']
        calls = [(first(), acb, 'bob'), (first(), cba, 'bob'), (ring(), ['x', 'y', 'z'], 'z'), (first(), acb, 'cid'), (first(), cba, 'ann')]
        self.by_turns(depth, calls)
        self.by_turns(nearest, calls)


if __name__ == '__main__':
    unittest.main()
