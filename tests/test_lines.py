"""Tests of [30] to [35], and of the rule [1] with its definitions [2]."""

import unittest
from itertools import product

from deskkeepers.errors import DeskError, NoDesk
from deskkeepers.lines import follow, is_line, keepers, masters, serve, taken
from deskkeepers.rosters import Roster
from plain import keepers_lists, plain_keeper, plain_serve
from samples import Odd, Unchanged, content, first, lines_of, names, odd_values, ring, small_rosters, wide


class LinesCase(unittest.TestCase):
    def missing(self, name, function, *arguments):
        """The function raises NoDesk(name), with this very name."""
        with self.assertRaises(DeskError) as held:
            function(*arguments)
        self.assertIs(type(held.exception), NoDesk)
        self.assertIs(held.exception.name, name)


class TestIsLine(LinesCase):
    def test_lines_in_any_order(self):
        for roster in [first(), ring(), Roster(['a'], []), Roster(['b', 'a'], []), *small_rosters()]:
            for line in lines_of(roster):
                with Unchanged(self, line):
                    self.assertIs(is_line(roster, line), True)
        self.assertIs(is_line(wide(), names(40)), True)
        self.assertIs(is_line(wide(), names(40)[::-1]), True)

    def test_things_that_are_no_line(self):
        line = ['ann', 'bob', 'cid']
        others = [[], ['ann'], ['ann', 'bob'], ['bob', 'cid'], ['ann', 'bob', 'cid', 'dan'], ['ann', 'bob', 'dan'],
                  ['ann', 'bob', 'bob'], ['ann', 'ann', 'bob'], ['ann', 'bob', 'cid', 'cid'], ['ann', 'bob', 'cid', 'ann'],
                  tuple(line), set(line), dict.fromkeys(line), 'ann bob cid', 'annbobcid', [line], [*line, None],
                  [None, *line], ['ann', 'bob', None], ['ann', 'bob', 3], ['ann', 'bob', 'Cid'], ['ann', 'bob', 'cid '],
                  ['ann', 'bob', ['cid']], ['ann', 'bob', b'cid'], ['ann', 'bob', ('cid',)], ['ann', 'bob', {}],
                  ['ann', 'bob', Odd()], ['ann', 'bob', True], iter(line), ['ab', 'bc', 'c'], line * 10000, first()]
        for thing in others + odd_values():
            self.assertIs(is_line(first(), thing), False, repr(thing)[:80])

    def test_wrong_things_for_one_worker_and_no_desk(self):
        roster = Roster(['a'], [])
        for thing in odd_values() + ['a', ('a',), ['b'], ['a', 'b'], ['a', 'a'], [['a']], [None]]:
            self.assertIs(is_line(roster, thing), False, repr(thing)[:80])
        self.assertIs(is_line(roster, ['a']), True)

    def test_things_stay_as_they_are(self):
        for thing in (['cid', 'ann'], ['cid', 'ann', 'bob', ['x']], [['a'], {'b': []}]):
            with Unchanged(self, thing):
                is_line(first(), thing)


class TestKeepers(LinesCase):
    def test_each_line_of_small_rosters(self):
        for roster in [first(), ring(), *small_rosters()]:
            for line in lines_of(roster):
                with Unchanged(self, line):
                    found = keepers(roster, line)
                self.assertEqual(found, [(desk, plain_keeper(roster, line, desk)) for desk in roster.desks()])

    def test_a_wide_roster(self):
        roster = wide()
        for line in (names(40), names(40)[::-1], names(40)[13:] + names(40)[:13]):
            self.assertEqual(keepers(roster, line), [(desk, plain_keeper(roster, line, desk)) for desk in roster.desks()])

    def test_desks_are_in_ascending_order(self):
        roster = Roster(['a', 'b'], [('zz', ['a']), ('z', ['b', 'a']), ('ab', ['b'])])
        self.assertEqual(keepers(roster, ['b', 'a']), [('ab', 'b'), ('z', 'b'), ('zz', 'a')])
        self.assertEqual(keepers(roster, ['a', 'b']), [('ab', 'b'), ('z', 'a'), ('zz', 'a')])

    def test_without_desks(self):
        self.assertEqual(keepers(Roster(['a', 'b'], []), ['b', 'a']), [])

    def test_changing_the_answer(self):
        roster, line = first(), ['cid', 'bob', 'ann']
        found = keepers(roster, line)
        found.clear()
        self.assertEqual(keepers(roster, line), [('ab', 'bob'), ('bc', 'cid'), ('c', 'cid')])


class TestServe(LinesCase):
    def test_each_call_in_small_rosters(self):
        for roster in [first(), ring(), *small_rosters()]:
            before = content(roster)
            for line in lines_of(roster):
                for desk in roster.desks():
                    with Unchanged(self, line):
                        found = serve(roster, line, desk)
                    self.assertIs(type(found), tuple)
                    self.assertEqual(found, plain_serve(roster, line, desk))
                    self.assertIsNot(found[1], line)
            self.assertEqual(content(roster), before)

    def test_the_first_of_the_line_serves(self):
        line = ['ann', 'bob', 'cid']
        server, after = serve(first(), line, 'ab')
        after.append('dan')
        self.assertEqual([server, line], ['ann', ['ann', 'bob', 'cid']])
        self.assertEqual(serve(first(), line, 'ab'), ('ann', ['ann', 'bob', 'cid']))

    def test_names_that_no_desk_has(self):
        line = ['ann', 'bob', 'cid']
        for name in ('a', 'ann', 'cid', 'abc', 'zz', 'abcdefgh'):
            with Unchanged(self, line):
                self.missing(name, serve, first(), line, name)
        self.missing('x', serve, Roster(['x'], []), ['x'], 'x')

    def test_workers_of_no_crew_keep_their_places(self):
        roster = Roster(['a', 'b', 'c', 'd'], [('x', ['b', 'd'])])
        self.assertEqual(serve(roster, ['a', 'd', 'c', 'b'], 'x'), ('d', ['d', 'a', 'c', 'b']))
        self.assertEqual(serve(roster, ['c', 'a', 'b', 'd'], 'x'), ('b', ['b', 'c', 'a', 'd']))

    def test_after_serving_a_worker_keeps_all_its_desks(self):
        roster, line = wide(), names(40)
        for desk in roster.desks() * 2:
            server, line = serve(roster, line, desk)
            kept = dict(keepers(roster, line))
            self.assertEqual({kept[own] for own in roster.desks_of(server)}, {server})


class TestFollow(LinesCase):
    def test_all_short_lists_of_calls(self):
        for roster in (first(), ring()):
            for line in lines_of(roster):
                for many in range(4):
                    for calls in product(roster.desks(), repeat=many):
                        self.check(roster, line, list(calls))

    def check(self, roster, line, calls):
        servers, now = [], line
        for desk in calls:
            server, now = plain_serve(roster, now, desk)
            servers.append(server)
        with Unchanged(self, line, calls):
            found = follow(roster, line, calls)
        self.assertIs(type(found), tuple)
        self.assertEqual(found, (servers, now))

    def test_no_calls(self):
        line = ['cid', 'ann', 'bob']
        servers, after = follow(first(), line, [])
        self.assertEqual([servers, after], [[], line])
        after.reverse()
        servers.append('x')
        self.assertEqual(line, ['cid', 'ann', 'bob'])
        self.assertEqual(follow(first(), line, []), ([], line))
        self.assertEqual(follow(Roster(['a'], []), ['a'], []), ([], ['a']))

    def test_a_thousand_calls(self):
        roster = wide()
        calls = [roster.desks()[(at * at + at // 7) % 60] for at in range(1000)]
        self.check(roster, names(40)[::-1], calls)
        self.assertEqual(len(follow(roster, names(40), calls)[0]), 1000)

    def test_the_rule_of_the_pool(self):
        roster, start = wide(), names(40)[20:] + names(40)[:20]
        calls = [roster.desks()[(at * 11 + at // 5) % 60] for at in range(300)]
        served = []
        for desk, server in zip(calls, follow(roster, start, calls)[0]):
            crew = roster.crew(desk)
            recent = [worker for worker in reversed(served) if worker in crew]
            wanted = recent[0] if recent else [worker for worker in start if worker in crew][0]
            self.assertEqual(server, wanted)
            served.append(server)

    def test_names_that_no_desk_has_at_any_place(self):
        line = ['ann', 'bob', 'cid']
        for at in range(4):
            calls = ['ab', 'bc', 'c']
            calls.insert(at, 'no')
            for more in ([], ['nope'], ['a', 'no']):
                with Unchanged(self, line, calls):
                    self.missing('no', follow, first(), line, calls + more)
        self.missing('no', follow, first(), line, ['c'] * 999 + ['no'])
        self.missing('no', follow, Roster(['a'], []), ['a'], ['no', 'a'])


class TestMasters(LinesCase):
    def test_each_line_of_small_rosters(self):
        for roster in [first(), ring(), *small_rosters()]:
            for line in lines_of(roster):
                wanted = []
                for worker in roster.workers():
                    desks = [desk for desk in roster.desks() if worker in roster.crew(desk)]
                    if desks and all(plain_keeper(roster, line, desk) == worker for desk in desks):
                        wanted.append(worker)
                with Unchanged(self, line):
                    self.assertEqual(masters(roster, line), wanted)

    def test_without_crews(self):
        self.assertEqual(masters(Roster(['a', 'b'], []), ['b', 'a']), [])
        self.assertEqual(masters(Roster(['a', 'b', 'c'], [('x', ['b'])]), ['a', 'c', 'b']), ['b'])

    def test_ascending_order(self):
        roster = Roster(['a', 'b', 'c'], [('x', ['c']), ('y', ['a']), ('z', ['b'])])
        for line in lines_of(roster):
            self.assertEqual(masters(roster, line), ['a', 'b', 'c'])

    def test_what_a_call_changes(self):
        for roster in [first(), ring(), *small_rosters()]:
            for line in lines_of(roster):
                before = masters(roster, line)
                for desk in roster.desks():
                    server, after = serve(roster, line, desk)
                    self.assertEqual(keepers(roster, line) != keepers(roster, after), server not in before)
                    self.assertIn(server, masters(roster, after))


class TestTaken(LinesCase):
    def test_each_keepers_list_of_small_rosters(self):
        for roster in [first(), ring(), *small_rosters()]:
            for given in keepers_lists(roster):
                for desk in roster.desks():
                    self.check(roster, given, desk)

    def check(self, roster, given, desk):
        server = [worker for name, worker in given if name == desk][0]
        wanted = []
        for name, worker in given:
            wanted.append((name, server) if server in roster.crew(name) else (name, worker))
        with Unchanged(self, given):
            found = taken(roster, given, desk)
        self.assertIs(type(found), tuple)
        self.assertEqual(found, (server, wanted))
        self.assertIsNot(found[1], given)

    def test_keepers_that_no_line_has(self):
        two = Roster(['ann', 'bob'], [('x', ['ann', 'bob']), ('y', ['ann', 'bob'])])
        self.assertEqual(taken(two, [('x', 'ann'), ('y', 'bob')], 'x'), ('ann', [('x', 'ann'), ('y', 'ann')]))
        self.assertEqual(taken(two, [('x', 'ann'), ('y', 'bob')], 'y'), ('bob', [('x', 'bob'), ('y', 'bob')]))
        given = [('x', 'x'), ('xy', 'x'), ('y', 'y'), ('yz', 'y'), ('z', 'z'), ('zx', 'z')]
        self.assertEqual(taken(ring(), given, 'x'), ('x', given[:5] + [('zx', 'x')]))

    def test_it_is_what_a_call_does_to_the_keepers_of_a_line(self):
        for roster in [first(), ring(), wide()]:
            for line in lines_of(roster) if len(roster) < 60 else [names(40), names(40)[::-1]]:
                for desk in roster.desks():
                    server, after = serve(roster, line, desk)
                    self.assertEqual(taken(roster, keepers(roster, line), desk), (server, keepers(roster, after)))

    def test_changing_the_answer(self):
        given = [('ab', 'ann'), ('bc', 'bob'), ('c', 'cid')]
        server, after = taken(first(), given, 'ab')
        self.assertEqual([server, after], ['ann', given])
        after.clear()
        self.assertEqual(given, [('ab', 'ann'), ('bc', 'bob'), ('c', 'cid')])


if __name__ == '__main__':
    unittest.main()
