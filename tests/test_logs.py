"""Tests of [60] to [62], and of [10]."""

import unittest
from itertools import product

from deskkeepers.errors import NotPossible
from deskkeepers.lines import follow
from deskkeepers.logs import facts, first_bad, servers
from deskkeepers.rosters import Roster
from plain import Case, entries, lines_after, plain_serve
from samples import first, lines_of, mixed_rosters, names, ring, small_rosters, wide


def plain_first_bad(roster, log):
    """The index of the first entry after which no line is left, or None."""
    for at in range(len(log)):
        if not lines_after(roster, log[:at + 1]):
            return at
    return None


def plain_facts(roster, log):
    """The facts by their definition."""
    found = set()
    for at, (desk, worker) in enumerate(log):
        crew = set(roster.crew(desk))
        if not crew & {server for _, server in log[:at]}:
            found |= {(worker, other) for other in crew - {worker}}
    return sorted(found)


def some_logs():
    """Rosters with logs, possible ones and others."""
    for roster in [first(), *small_rosters()[1:]]:
        for many in range(4 if len(roster) < 3 else 3):
            for log in product(entries(roster), repeat=many):
                yield roster, list(log)
    for log in product(entries(first()), repeat=4):
        yield first(), list(log)
    for roster in [ring(), *mixed_rosters(4, 4, 5), *mixed_rosters(2, 5, 6)]:
        whole = entries(roster)
        for step in range(1, 60):
            yield roster, [whole[at * step * step % len(whole)] for at in range(step % 7)]
    for roster, calls in ((ring(), ['xy', 'yz', 'zx', 'x', 'xy', 'z', 'yz']), *[(roster, roster.desks() * 2)
                                                                                 for roster in mixed_rosters(6, 4, 6, 3)]):
        for line in lines_of(roster)[::3]:
            log = list(zip(calls, follow(roster, line, calls)[0]))
            for many in range(len(log) + 1):
                yield roster, log[:many]


def great_log(line):
    """A log of 200 entries that the line gives."""
    roster = wide()
    calls = [roster.desks()[(at * at + at // 7) % 60] for at in range(200)]
    return list(zip(calls, follow(roster, line, calls)[0]))


class TestFirstBad(Case):
    def test_against_all_lines(self):
        found = set()
        for roster, log in some_logs():
            wanted = plain_first_bad(roster, log)
            self.assertEqual(self.steady(first_bad, roster, log), wanted)
            found.add(wanted)
        self.assertTrue(found >= {None, 1, 2, 3, 4})

    def test_the_empty_log(self):
        for roster in (first(), ring(), wide(), Roster(['a'], [])):
            self.assertIsNone(first_bad(roster, []))

    def test_two_hundred_entries(self):
        for line in (names(40), names(40)[::-1]):
            log = great_log(line)
            self.assertEqual(len(log), 200)
            self.assertIsNone(self.steady(first_bad, wide(), log))
            for at in range(200):
                desk, worker = log[at]
                others = [other for other in wide().crew(desk) if other != worker]
                served = {server for _, server in log[:at]} & set(wide().crew(desk))
                for other in others:
                    changed = log[:at] + [(desk, other)] + log[at + 1:]
                    if served:
                        self.assertEqual(first_bad(wide(), changed), at)
                    elif first_bad(wide(), changed) is not None:
                        self.assertGreater(first_bad(wide(), changed), at)

    def test_several_bad_entries(self):
        log = [('ab', 'ann'), ('bc', 'cid'), ('ab', 'bob'), ('bc', 'bob'), ('ab', 'bob')]
        self.assertEqual(first_bad(first(), log), 2)
        self.assertEqual(first_bad(first(), log[:2] + log[3:]), 2)
        self.assertEqual(first_bad(first(), log[:1] + log[2:]), 1)
        self.assertEqual(first_bad(first(), [('bc', 'bob'), ('c', 'cid'), ('bc', 'cid'), ('ab', 'ann')]), 3)

    def test_the_one_that_served_last_and_not_most_often_or_first(self):
        one = Roster(['a', 'b', 'c'], [('abc', ['a', 'b', 'c']), ('a', ['a']), ('b', ['b']), ('c', ['c'])])
        log = [('a', 'a'), ('a', 'a'), ('b', 'b'), ('c', 'c'), ('b', 'b')]
        self.assertIsNone(first_bad(one, [*log, ('abc', 'b')]))
        self.assertEqual(first_bad(one, [*log, ('abc', 'a')]), 5)
        self.assertEqual(first_bad(one, [*log, ('abc', 'c')]), 5)


class TestFacts(Case):
    def test_against_all_lines(self):
        for roster, log in some_logs():
            bad = plain_first_bad(roster, log)
            if bad is not None:
                self.raises(NotPossible(bad), facts, roster, log)
                continue
            found = self.steady(facts, roster, log)
            self.assertEqual(found, plain_facts(roster, log))
            self.assertEqual(found, sorted(set(found)))
            lines = [line for line in lines_of(roster) if all(line.index(worker) < line.index(other) for worker, other in found)]
            self.assertEqual(lines, [start for start, _ in lines_after(roster, log)])

    def test_order_and_duplicates(self):
        roster = Roster(['a', 'b', 'c', 'd'], [('x', ['d', 'b', 'c']), ('y', ['a', 'b', 'c']), ('z', ['d', 'b', 'c'])])
        self.assertEqual(facts(roster, [('x', 'd'), ('z', 'd'), ('y', 'a'), ('x', 'd')]),
                         [('a', 'b'), ('a', 'c'), ('d', 'b'), ('d', 'c')])
        self.assertEqual(facts(roster, [('x', 'c'), ('y', 'c')]), [('c', 'b'), ('c', 'd')])
        self.assertEqual(facts(roster, []), [])
        self.assertEqual(facts(first(), [('c', 'cid'), ('bc', 'cid')]), [])

    def test_two_hundred_entries(self):
        for line in (names(40), names(40)[::-1]):
            self.assertEqual(self.steady(facts, wide(), great_log(line)), plain_facts(wide(), great_log(line)))
        everyone = Roster(names(40), [('all', names(40))])
        self.assertEqual(facts(everyone, [('all', 'waf')] * 200), [('waf', name) for name in names(40) if name != 'waf'])

    def test_by_turns(self):
        self.by_turns(facts, [(first(), [('ab', 'ann'), ('bc', 'cid')]), (ring(), [('xy', 'x')]), (first(), [('bc', 'bob')]), (first(), [])])
        self.by_turns(first_bad, [(first(), [('ab', 'ann'), ('bc', 'cid')]), (first(), [('ab', 'ann'), ('ab', 'bob')]), (ring(), [])])


class TestServers(Case):
    def test_against_all_lines(self):
        sizes = set()
        for roster, log in some_logs():
            bad = plain_first_bad(roster, log)
            for desk in roster.desks():
                if bad is not None:
                    self.raises(NotPossible(bad), servers, roster, log, desk)
                    continue
                wanted = {plain_serve(roster, now, desk)[0] for _, now in lines_after(roster, log)}
                self.assertEqual(self.steady(servers, roster, log, desk), sorted(wanted))
                sizes.add(len(wanted))
        self.assertEqual(sizes, {1, 2, 3})

    def test_crews_of_whom_none_and_some_have_served(self):
        roster = Roster(['a', 'b', 'c', 'd'], [('x', ['d', 'b', 'a']), ('c', ['c', 'd']), ('d', ['d'])])
        self.assertEqual(servers(roster, [], 'x'), ['a', 'b', 'd'])
        self.assertEqual(servers(roster, [('c', 'c')], 'x'), ['a', 'b', 'd'])
        self.assertEqual(servers(roster, [('c', 'c'), ('d', 'd')], 'x'), ['d'])
        self.assertEqual(servers(roster, [('d', 'd'), ('x', 'd')], 'c'), ['d'])
        self.assertEqual(servers(roster, [('d', 'd')], 'd'), ['d'])

    def test_two_hundred_entries(self):
        log = great_log(names(40))
        for desk in wide().desks():
            served = [worker for _, worker in log if worker in wide().crew(desk)]
            self.assertEqual(servers(wide(), log, desk), served[-1:] or wide().crew(desk))
        full = Roster(names(40), [('all', names(40))])
        self.assertEqual(servers(full, [], 'all'), names(40))

    def test_the_answer_may_be_changed(self):
        roster = first()
        servers(roster, [], 'ab').clear()
        self.assertEqual([servers(roster, [], 'ab'), roster.crew('ab')], [['ann', 'bob'], ['ann', 'bob']])

    def test_by_turns(self):
        self.by_turns(servers, [(first(), [('c', 'cid')], 'ab'), (first(), [('bc', 'bob')], 'ab'), (ring(), [], 'zx'), (first(), [], 'bc')])


if __name__ == '__main__':
    unittest.main()
