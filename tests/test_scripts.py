"""Tests of [80] to [83], and of [12]."""

import unittest
from itertools import product

from deskkeepers.errors import TooMany
from deskkeepers.rosters import Roster
from deskkeepers.scripts import after, is_period, period, survivors
from plain import Case, plain_serve
from samples import Odd, first, lines_of, mixed_rosters, names, nested, odd_values, ring, small_rosters, wide

TURNING = ['xy', 'x', 'yz', 'y', 'zx', 'xy', 'z']


def plain_lines(roster, line, script, many):
    """The lines after 0 to many repetitions, and the servers of each repetition."""
    lines, served = [line], []
    for _ in range(many):
        now, servers = lines[-1], set()
        for desk in script:
            server, now = plain_serve(roster, now, desk)
            servers.add(server)
        lines.append(now)
        served.append(servers)
    return lines, served


def plain_period(lines):
    """The least lead and length of a list of lines, each lead tried with each length."""
    for total in range(1, len(lines)):
        for lead in range(total):
            if lines[lead] == lines[total]:
                return lead, total - lead
    return None


def some_scripts():
    """Rosters with lines and scripts."""
    for roster in [first(), ring(), *small_rosters()[1::3]]:
        desks = roster.desks()
        for many in range(4):
            for at, script in enumerate(product(desks, repeat=many)):
                if many < 3 or at % 5 == 0:
                    for line in lines_of(roster)[at % 2::2]:
                        yield roster, line, list(script)
    yield ring(), ['z', 'x', 'y'], TURNING
    for seed, roster in enumerate(mixed_rosters(12, 5, 6, 4)):
        desks = roster.desks()
        for step in range(1, 9):
            line = lines_of(roster)[seed * 7 + step]
            yield roster, line, [desks[(at * at * step + at + seed) % len(desks)] for at in range(4 + step * 2)]


def shifting(bits, taps, feedback):
    """A roster, a line and a script that makes a shift register of the bits go one step on in each repetition.

    A bit is a pair of workers, x and y; it is 1 if y stands ahead of x. Each step puts a new bit before the
    others: it is 0 if one of the crews of the feedback is one whose other members, the x and y of some of
    the taps, have not been brought to the front.
    """
    xs, ys = names(bits + 1, 'x'), names(bits + 1, 'y')
    crews = [[xs[bits]], [ys[bits]]] + [[xs[at], ys[at]] for at in taps]
    crews += [[xs[at] for at in some] + [ys[at] for at in others] + [xs[bits]] for some, others in feedback]
    for to in range(bits - 1, -1, -1):
        source = to - 1 if to else bits
        crews += [[xs[to]], [ys[to]], [xs[source], ys[source]], [ys[source], xs[to]]]
    different = [crew for at, crew in enumerate(crews) if crew not in crews[:at]]
    desks = list(zip(names(len(different), 'd'), different))
    line = [ys[0], *xs, *ys[1:]]
    return Roster(xs + ys, desks), line, [desks[different.index(crew)][0] for crew in crews]


def register(bits, tap):
    """A shift register in which, with the right tap, all states but one follow each other before one comes again."""
    both = [bits - 1, tap - 1]
    return shifting(bits, both, [([], both), (both, [])])


def thousand():
    """A roster, a line and a script with lead 1 and length 1,000."""
    return shifting(10, [9, 1, 6, 4], [([4], [1, 9]), ([], [1, 6, 9]), ([6, 9], [4]), ([4], [1, 9]), ([1, 9], [])])


def whole_case():
    """Forty workers, sixty desks and a script of sixty names."""
    roster = wide()
    desks = roster.desks()
    return roster, names(40)[::-1], [desks[(at * 7 + at * at) % 60] for at in range(60)]


class TestPeriod(Case):
    def test_against_the_lines_of_every_repetition(self):
        found = set()
        for roster, line, script in some_scripts():
            lines, _ = plain_lines(roster, line, script, 14)
            wanted = plain_period(lines)
            self.assertIsNotNone(wanted)
            self.assertEqual(self.steady(period, roster, line, script), wanted)
            found.add(wanted)
        self.assertTrue(found >= {(0, 1), (1, 1), (0, 2)}, found)
        self.assertTrue(any(lead > 1 for lead, _ in found) or any(lead == 1 and length > 1 for lead, length in found), found)

    def test_the_empty_script(self):
        for roster in (first(), ring(), wide(), Roster(['b', 'a'], [])):
            for line in (roster.workers(), roster.workers()[::-1]):
                for limit in (1, 2, 1000):
                    self.assertEqual(period(roster, line, [], limit=limit), (0, 1))

    def test_a_period_greater_than_one(self):
        self.assertEqual(period(ring(), ['z', 'x', 'y'], TURNING), (0, 2))
        self.assertEqual(period(ring(), ['z', 'y', 'x'], TURNING), (0, 2))

    def test_limits(self):
        kinds = set()
        for roster, line, script in list(some_scripts())[::3] + [(ring(), ['z', 'x', 'y'], TURNING)]:
            wanted = plain_period(plain_lines(roster, line, script, 14)[0])
            for limit in {1, 2, 3, 1000, sum(wanted), sum(wanted) + 1, max(1, sum(wanted) - 1)}:
                if limit < sum(wanted):
                    self.raises(TooMany(limit), period, roster, line, script, limit=limit)
                else:
                    self.assertEqual(period(roster, line, script, limit=limit), wanted)
                kinds.add(limit < sum(wanted))
        self.assertEqual(kinds, {True, False})

    def test_long_periods(self):
        for bits, tap in ((2, 1), (3, 2), (4, 3), (5, 3), (6, 5), (7, 6), (9, 5)):
            roster, line, script = register(bits, tap)
            lead, length = self.steady(period, roster, line, script)
            self.assertEqual(length, 2 ** bits - 1)
            self.assertLessEqual(lead, 1)
            self.assertEqual(period(roster, line, script, limit=lead + length), (lead, length))
            self.raises(TooMany(lead + length - 1), period, roster, line, script, limit=lead + length - 1)
            lines, _ = plain_lines(roster, line, script, lead + length)
            self.assertEqual(lines[lead], lines[lead + length])
            self.assertEqual(len({tuple(now) for now in lines}), lead + length)

    def test_a_period_beyond_the_limit(self):
        for bits, tap in ((10, 7), (11, 9)):
            roster, line, script = register(bits, tap)
            self.assertLessEqual(max(len(script), len(roster)), 60)
            self.raises(TooMany(1000), period, roster, line, script)
            self.raises(TooMany(1000), period, roster, line, script, limit=1000)
            self.raises(TooMany(1), period, roster, line, script, limit=1)
            for thing in ((0, 1023), (1, 1023), (0, 2047), (1, 2047), (0, 1), (1, 1000), (0, 1000), (0, 1001), None):
                self.assertIs(is_period(roster, line, script, thing), False)

    def test_just_a_thousand_and_one_more(self):
        roster, line, script = thousand()
        self.assertLessEqual(max(len(script), len(roster)), 60)
        lines, _ = plain_lines(roster, line, script, 1001)
        self.assertEqual([len({tuple(now) for now in lines}), lines[1]], [1001, lines[1001]])
        self.raises(TooMany(1000), period, roster, line, script)
        self.raises(TooMany(1000), survivors, roster, line, script)
        self.raises(TooMany(1000), after, roster, line, script, 1001)
        self.assertEqual(after(roster, line, script, 1000), lines[1000])
        self.assertIs(is_period(roster, line, script, (1, 1000)), False)
        self.assertEqual(period(roster, lines[1], script), (0, 1000))
        self.assertEqual(len(survivors(roster, lines[1], script)), 22)
        self.assertEqual(after(roster, lines[1], script, 10 ** 30 + 1001), lines[2])
        self.assertIs(is_period(roster, lines[1], script, (0, 1000)), True)
        for thing in ((1, 1000), (0, 1001), (0, 999), (0, 500)):
            self.assertIs(is_period(roster, lines[1], script, thing), False)
        self.raises(TooMany(999), period, roster, lines[1], script, limit=999)

    def test_great_rosters(self):
        roster, line, script = whole_case()
        wanted = plain_period(plain_lines(roster, line, script, 30)[0])
        self.assertEqual(self.steady(period, roster, line, script), wanted)

    def test_by_turns(self):
        self.by_turns(period, [(ring(), ['z', 'x', 'y'], TURNING), (first(), ['ann', 'bob', 'cid'], ['bc', 'c']),
                               (ring(), ['z', 'x', 'y'], ['xy', 'x']), (ring(), ['z', 'x', 'y'], [])])


class TestAfter(Case):
    def test_times_below_at_and_above_lead_and_length(self):
        for roster, line, script in some_scripts():
            lead, length = plain_period(plain_lines(roster, line, script, 14)[0])
            lines, _ = plain_lines(roster, line, script, lead + 3 * length + 2)
            for times, wanted in enumerate(lines):
                self.assertEqual(self.steady(after, roster, line, script, times), wanted)
            for times in (10 ** 30, 10 ** 30 - 1, 10 ** 30 - 2, 999, 1000, 1001, 10 ** 9 + 7):
                self.assertEqual(after(roster, line, script, times), lines[lead + (times - lead) % length])

    def test_long_periods(self):
        roster, line, script = register(7, 6)
        lead, length = period(roster, line, script)
        lines, _ = plain_lines(roster, line, script, lead + length)
        for times in (0, 1, 2, lead + length - 1, lead + length, lead + length + 1, 999, 1000, 1001, 10 ** 29 + 77, 10 ** 30):
            wanted = lines[times] if times < len(lines) else lines[lead + (times - lead) % length]
            self.assertEqual(after(roster, line, script, times), wanted)

    def test_limits(self):
        kinds = set()
        for roster, line, script in [*list(some_scripts())[::9], (ring(), ['z', 'x', 'y'], TURNING), register(3, 2), register(5, 3)]:
            lead, length = plain_period(plain_lines(roster, line, script, 40)[0])
            lines, _ = plain_lines(roster, line, script, 80)
            for times in {0, 1, 2, 3, lead + length - 1, lead + length, lead + length + 1, 40, 80}:
                for limit in {1, 2, 3, lead + length, max(1, lead + length - 1), lead + length + 1, max(1, times), max(1, times - 1), 1000}:
                    if times > limit and lead + length > limit:
                        self.raises(TooMany(limit), after, roster, line, script, times, limit=limit)
                    else:
                        self.assertEqual(after(roster, line, script, times, limit=limit), lines[times])
                    kinds.add((times > limit, lead + length > limit))
        self.assertEqual(len(kinds), 4)

    def test_a_period_beyond_the_limit(self):
        roster, line, script = register(10, 7)
        lines, _ = plain_lines(roster, line, script, 1000)
        for times in (0, 1, 500, 999, 1000):
            self.assertEqual(after(roster, line, script, times), lines[times])
            self.assertEqual(after(roster, line, script, times, limit=max(1, times)), lines[times])
        for times in (1001, 1023, 1024, 10 ** 30):
            self.raises(TooMany(1000), after, roster, line, script, times)
            self.raises(TooMany(999), after, roster, line, script, times, limit=999)
        self.raises(TooMany(499), after, roster, line, script, 500, limit=499)

    def test_the_empty_script_and_new_lists(self):
        for roster in (first(), ring(), Roster(['b', 'a'], [])):
            line = roster.workers()[::-1]
            for times in (0, 1, 7, 1000, 1001, 10 ** 30):
                for limit in (1, 1000):
                    found = after(roster, line, [], times, limit=limit)
                    self.assertEqual(found, line)
                    self.assertIsNot(found, line)

    def test_great_rosters(self):
        roster, line, script = whole_case()
        lines, _ = plain_lines(roster, line, script, 30)
        lead, length = plain_period(lines)
        for times in (0, 1, 5, 29, 30, 10 ** 30):
            self.assertEqual(after(roster, line, script, times), lines[times if times <= lead else lead + (times - lead) % length])

    def test_by_turns(self):
        self.by_turns(after, [(ring(), ['z', 'x', 'y'], TURNING, 10 ** 30), (first(), ['ann', 'bob', 'cid'], ['bc', 'c'], 1),
                              (ring(), ['z', 'x', 'y'], TURNING, 1), (first(), ['ann', 'bob', 'cid'], ['bc', 'c'], 0)])


class TestSurvivors(Case):
    def test_against_many_repetitions(self):
        lost = set()
        for roster, line, script in [*some_scripts(), whole_case(), register(6, 5)]:
            _, served = plain_lines(roster, line, script, 70)
            for earlier, later in zip(served, served[1:]):
                self.assertTrue(later <= earlier)
            found = self.steady(survivors, roster, line, script)
            self.assertEqual(found, sorted(served[-1]))
            lost.add(len(served[0] - served[-1]))
        self.assertTrue(lost >= {0, 1}, lost)

    def test_the_empty_script(self):
        for roster in (first(), ring(), wide(), Roster(['b', 'a'], [])):
            for limit in (1, 1000):
                self.assertEqual(survivors(roster, roster.workers(), [], limit=limit), [])

    def test_limits(self):
        for roster, line, script in [*list(some_scripts())[::9], (ring(), ['z', 'x', 'y'], TURNING), register(4, 3)]:
            needed = sum(period(roster, line, script))
            wanted = survivors(roster, line, script)
            for limit in (needed, needed + 1, 1000):
                self.assertEqual(survivors(roster, line, script, limit=limit), wanted)
            for limit in {1, needed - 1}:
                if 0 < limit < needed:
                    self.raises(TooMany(limit), survivors, roster, line, script, limit=limit)
        roster, line, script = register(10, 7)
        self.raises(TooMany(1000), survivors, roster, line, script)

    def test_by_turns(self):
        self.by_turns(survivors, [(ring(), ['z', 'x', 'y'], TURNING), (first(), ['ann', 'bob', 'cid'], ['bc', 'c']),
                                  (ring(), ['z', 'x', 'y'], ['xy']), (first(), ['ann', 'bob', 'cid'], [])])


class TestIsPeriod(Case):
    def test_all_small_tuples(self):
        for roster, line, script in list(some_scripts())[::2]:
            wanted = period(roster, line, script)
            for lead in range(-2, 6):
                for length in range(-2, 8):
                    self.assertIs(is_period(roster, line, script, (lead, length)), (lead, length) == wanted)

    def test_multiples_of_the_length_and_greater_leads(self):
        for roster, line, script in [(ring(), ['z', 'x', 'y'], TURNING), register(5, 3), (first(), ['ann', 'bob', 'cid'], ['bc', 'c'])]:
            lead, length = period(roster, line, script)
            self.assertIs(self.steady(is_period, roster, line, script, (lead, length)), True)
            for thing in ((lead, 2 * length), (lead, 3 * length), (lead + 1, length), (lead + length, length), (lead - 1, length),
                          (lead, -length), (-lead - 1, length), (length, lead), (lead, length, 0), (lead,), (lead, length + 1)):
                self.assertIs(is_period(roster, line, script, thing), thing == (lead, length), thing)

    def test_other_values(self):
        empty = (first(), ['ann', 'bob', 'cid'], [])
        self.assertIs(is_period(*empty, (0, 1)), True)
        for thing in ([0, 1], (False, True), (0, True), (False, 1), (0, '1'), ('0', 1), (None, 1), (0, None), ((0, 1),), ((0,), (1,)),
                      ([0], [1]), (0, 1, 1), (0,), (), {0: 1}, {0, 1}, '01', (-1, 1), (0, 0), (0, -1), (0, 2), (1, 1), (10 ** 39, 1),
                      (0, 10 ** 39), (Odd(), Odd()), (0, Odd()), Odd(), nested(20), *odd_values()):
            for case in (empty, (first(), ['ann', 'bob', 'cid'], ['c'])):
                wanted = case[2] == ['c'] and type(thing) is tuple and [type(part) for part in thing] == [int] * 2 and thing == (1, 1)
                self.assertIs(is_period(*case, thing), wanted, repr(thing)[:80])

    def test_a_period_of_hundreds(self):
        roster, line, script = register(9, 5)
        lead, length = period(roster, line, script)
        self.assertIs(is_period(roster, line, script, (lead, length)), True)
        self.assertIs(is_period(roster, line, script, (lead, 2 * length)), False)

    def test_by_turns(self):
        self.by_turns(is_period, [(ring(), ['z', 'x', 'y'], TURNING, (0, 2)), (first(), ['ann', 'bob', 'cid'], [], (0, 1)),
                                  (ring(), ['z', 'x', 'y'], [], (0, 2)), (ring(), ['z', 'x', 'y'], TURNING, (0, 1))])


if __name__ == '__main__':
    unittest.main()
