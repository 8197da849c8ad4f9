"""Tests of [63]."""

import unittest
from itertools import permutations
from math import factorial

from deskkeepers.counting import line_many, line_number, line_of
from deskkeepers.errors import NoNumber, NotPossible, TooMany
from deskkeepers.lines import follow
from deskkeepers.logs import first_bad
from deskkeepers.rosters import Roster
from plain import Case, entries, lines_after
from samples import first, lines_of, mixed_rosters, names, ring, small_rosters


def some_logs():
    """Rosters with possible logs."""
    for roster in [first(), Roster(['b', 'a'], []), *small_rosters()]:
        for log in [[], *[[entry] for entry in entries(roster)], *[[one, two] for one in entries(roster) for two in entries(roster)]]:
            if first_bad(roster, log) is None:
                yield roster, log
    for roster in [ring(), *mixed_rosters(4, 4, 5), *mixed_rosters(3, 5, 5)]:
        for line in lines_of(roster)[::11]:
            servers, _ = follow(roster, line, roster.desks())
            for many in range(len(servers) + 1):
                yield roster, list(zip(roster.desks(), servers))[:many]


def twelve():
    """Twelve workers, with some desks that several of them share."""
    workers = names(12)
    return Roster(workers, [('all', workers), ('even', workers[::2]), ('odd', workers[1::2]), ('first', workers[:3]), ('last', workers[9:])])


class TestCounting(Case):
    def test_against_all_lines(self):
        for roster, log in some_logs():
            lines = sorted(start for start, _ in lines_after(roster, log))
            self.assertEqual(self.steady(line_many, roster, log), len(lines))
            for number in list(range(len(lines)))[::1 + len(lines) // 7]:
                self.assertEqual(self.steady(line_of, roster, log, number), lines[number])
            for line in lines_of(roster)[::1 + len(roster.workers()) ** 2 // 8]:
                wanted = lines.index(line) if line in lines else None
                self.assertEqual(self.steady(line_number, roster, log, line), wanted)
            for number in (len(lines), len(lines) + 1, 10 ** 40 - 1):
                self.raises(NoNumber(number), line_of, roster, log, number)

    def test_there_and_back(self):
        for roster, log in list(some_logs())[::9]:
            lines = [line_of(roster, log, number) for number in range(line_many(roster, log))]
            self.assertEqual(lines, sorted(lines))
            self.assertEqual([line_number(roster, log, line) for line in lines], list(range(len(lines))))

    def test_twelve_workers_without_a_log(self):
        roster, many = twelve(), factorial(12)
        self.assertEqual(line_many(roster, []), many)
        self.assertEqual(line_of(roster, [], 0), names(12))
        self.assertEqual(line_of(roster, [], many - 1), names(12)[::-1])
        self.assertEqual(line_of(roster, [], factorial(11)), ['wab', 'waa', *names(12)[2:]])
        self.assertEqual(line_of(roster, [], 2 * factorial(11) + 3 * factorial(10) + 1),
                         ['wac', 'wae', 'waa', 'wab', 'wad', *names(12)[5:10], 'wal', 'wak'])
        for number in (0, 1, 12, 3628800, 87178291, 479001598, many - 1):
            self.assertEqual(line_number(roster, [], line_of(roster, [], number)), number)
        for number in (many, many + 1, 10 ** 20):
            self.raises(NoNumber(number), line_of, roster, [], number)

    def test_twelve_workers_with_a_log(self):
        roster = twelve()
        self.assertEqual(line_many(roster, [('all', 'wac')]), factorial(11))
        self.assertEqual(line_of(roster, [('all', 'wac')], 0), ['wac', 'waa', 'wab', *names(12)[3:]])
        self.assertEqual(line_many(roster, [('even', 'waa')]), factorial(12) // 6)
        self.assertEqual(line_many(roster, [('even', 'waa'), ('odd', 'wal')]), factorial(12) // 36)
        log = [('even', 'wai'), ('first', 'wab'), ('last', 'wal'), ('all', 'wal')]
        many = line_many(roster, log)
        # The facts are about nine workers, and the three others stand anywhere among them.
        nine = [line for line in permutations('abcegijkl') if line.index('i') < min(line.index(other) for other in 'acegk')
                and line.index('b') < min(line.index('a'), line.index('c')) and line.index('l') < min(line.index('j'), line.index('k'))]
        self.assertEqual(many, len(nine) * 10 * 11 * 12)
        for number in (0, 1, 1000, many // 2, many - 1):
            line = line_of(roster, log, number)
            self.assertEqual(follow(roster, line, [desk for desk, _ in log])[0], [worker for _, worker in log])
            self.assertEqual(self.steady(line_number, roster, log, line), number)
        self.raises(NoNumber(many), line_of, roster, log, many)
        self.assertIsNone(line_number(roster, log, names(12)))

    def test_the_least_and_the_greatest_line_of_a_log(self):
        roster, log = first(), [('ab', 'bob')]
        self.assertEqual([line_of(roster, log, number) for number in range(3)],
                         [['bob', 'ann', 'cid'], ['bob', 'cid', 'ann'], ['cid', 'bob', 'ann']])
        self.assertEqual([line_number(roster, log, line) for line in sorted(lines_of(roster))], [None, None, 0, 1, None, 2])
        self.raises(NoNumber(3), line_of, roster, log, 3)

    def test_one_worker(self):
        one = Roster(['a'], [('x', ['a'])])
        for log in ([], [('x', 'a')], [('x', 'a')] * 200):
            self.assertEqual([line_many(one, log), line_of(one, log, 0), line_number(one, log, ['a'])], [1, ['a'], 0])
            self.raises(NoNumber(1), line_of, one, log, 1)

    def test_thirteen_and_more_workers(self):
        for many in (13, 20, 40):
            roster = Roster(names(many), [('x', names(2)), ('y', names(many))])
            for log in ([], [('x', 'waa')], [('y', 'waa'), ('x', 'waa')]):
                self.raises(TooMany(12), line_many, roster, log)
                self.raises(TooMany(12), line_of, roster, log, 0)
                self.raises(TooMany(12), line_of, roster, log, 10 ** 30)
                self.raises(TooMany(12), line_number, roster, log, names(many))
        self.assertEqual(line_many(Roster(names(12), [('x', names(2))]), [('x', 'waa')]), factorial(12) // 2)

    def test_logs_that_are_not_possible(self):
        bad = [('x', 'waa'), ('y', 'waa'), ('x', 'wab'), ('y', 'wab')]
        for many in (2, 3, 12, 13, 40):
            roster = Roster(names(many), [('x', names(2)), ('y', names(many))])
            for log, at in ((bad, 2), (bad[1:], 1), (bad[::3], 1), ([('x', 'waa')] * 199 + [('y', 'wab')], 199)):
                self.raises(NotPossible(at), line_many, roster, log)
                self.raises(NotPossible(at), line_of, roster, log, 0)
                self.raises(NotPossible(at), line_of, roster, log, 10 ** 30)
                self.raises(NotPossible(at), line_number, roster, log, names(many))

    def test_two_hundred_entries(self):
        line = names(12)[7:] + names(12)[:7]
        calls = [twelve().desks()[at * at % 5] for at in range(200)]
        log = list(zip(calls, follow(twelve(), line, calls)[0]))
        self.assertEqual(line_of(twelve(), log, line_number(twelve(), log, line)), line)

    def test_by_turns(self):
        log = [('ab', 'ann'), ('bc', 'cid')]
        self.by_turns(line_many, [(first(), log), (ring(), []), (first(), []), (ring(), [('xy', 'y')])])
        self.by_turns(line_of, [(first(), log, 1), (ring(), [], 5), (first(), [], 5), (ring(), [('xy', 'y')], 2)])
        self.by_turns(line_number, [(first(), log, ['cid', 'ann', 'bob']), (ring(), [], ['z', 'x', 'y']), (first(), log, ['bob', 'ann', 'cid'])])


if __name__ == '__main__':
    unittest.main()
