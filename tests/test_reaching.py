"""Tests of [50] and [51], and of what [8] says about them."""

import unittest
from itertools import permutations, product

from deskkeepers.errors import NoOwn, NotLive
from deskkeepers.lines import follow
from deskkeepers.orders import is_cycle
from deskkeepers.reaching import is_must_call, must_call, reach
from deskkeepers.rosters import Roster
from plain import Case, distances, meets, plain_keepers, plain_live, subsets, wishes_of
from samples import Odd, first, lines_of, mixed_rosters, names, nested, odd_values, ring, small_rosters


def plain_must(roster, line, wishes):
    """The workers that must be called, by their definition: the smallest set of its kind."""
    kept = plain_keepers(roster, line)
    for called in subsets(roster.workers()):
        needed = [worker for desk, worker in wishes
                  if (desk, worker) not in kept or set(roster.crew(desk)) & set(called) - {worker}]
        if set(needed) <= set(called):
            return called
    return None


def are_plain_reasons(roster, line, wishes, thing):
    """Whether a list of tuples of three is as [50] says."""
    kept = plain_keepers(roster, line)
    for at, (worker, desk, other) in enumerate(thing):
        if (desk, worker) not in wishes:
            return False
        if (desk, worker) not in kept:
            if other is not None:
                return False
        elif other == worker or other not in roster.crew(desk) or other not in [item[0] for item in thing[:at]]:
            return False
    return sorted(item[0] for item in thing) == plain_must(roster, line, wishes)


def small_cases():
    """Rosters with lines and wishes whose workers are live."""
    for roster in [first(), *small_rosters()]:
        for line in lines_of(roster):
            for wishes in wishes_of(roster):
                if {worker for _, worker in wishes} <= plain_live(roster, line):
                    yield roster, line, wishes


def greater_cases():
    """The like of four and five workers, and of the ring; some of the wishes in another order."""
    for roster in [ring(), *mixed_rosters(4, 4, 6), *mixed_rosters(2, 5, 6, 2)]:
        lines = lines_of(roster)
        for line in lines[::1 + len(lines) // 6]:
            live = plain_live(roster, line)
            cases = [wishes for wishes in wishes_of(roster) if {worker for _, worker in wishes} <= live]
            for at, wishes in enumerate(cases[::1 + len(cases) // 60]):
                yield roster, line, wishes[::-1] if at % 2 else wishes


def chain(many):
    """Workers with a desk each alone and one with the next one, and wishes for the latter, each for the second."""
    workers = names(many)
    desks = [('a' + name, [name]) for name in workers]
    shared = [('b' + name, [name, after]) for name, after in zip(workers, workers[1:])]
    return Roster(workers, desks + shared), [(desk, crew[1]) for desk, crew in shared]


class TestMustCall(Case):
    def test_the_definition(self):
        kinds = set()
        for cases in (small_cases(), greater_cases()):
            for roster, line, wishes in cases:
                found = self.steady(must_call, roster, line, wishes)
                self.assertTrue(are_plain_reasons(roster, line, wishes, found))
                self.assertIs(is_must_call(roster, line, wishes, found), True)
                kinds |= {item[2] is None for item in found}
        self.assertEqual(kinds, {True, False})

    def test_one_worker_after_another(self):
        roster, wishes = chain(30)
        for given in (wishes, wishes[::-1]):
            found = must_call(roster, names(30)[::-1], given)
            self.assertEqual(found, [])
            line = names(1) + names(30)[:0:-1]
            found = self.steady(must_call, roster, line, given)
            self.assertEqual(sorted(item[0] for item in found), names(30)[1:])
            self.assertEqual([item for item in found if item[2] is None], [('wab', 'bwaa', None)])
            self.assertIs(is_must_call(roster, line, given, found), True)
            self.assertIs(is_must_call(roster, line, given, found[:-1]), False)
            self.assertIs(is_must_call(roster, line, given, found[1:]), False)

    def test_one_reason_for_a_worker_with_several_wishes(self):
        roster = Roster(['a', 'b'], [('x', ['a', 'b']), ('y', ['a', 'b']), ('z', ['b'])])
        wishes = [('x', 'b'), ('y', 'b'), ('z', 'b')]
        found = must_call(roster, ['a', 'b'], wishes)
        self.assertIn(found, [[('b', 'x', None)], [('b', 'y', None)]])
        self.assertEqual(must_call(roster, ['b', 'a'], wishes), [])
        self.assertEqual(must_call(roster, ['a', 'b'], []), [])

    def test_workers_that_are_not_live(self):
        line = ['ann', 'cid', 'bob']
        for function in (must_call, reach):
            self.raises(NotLive('bob'), function, first(), line, [('ab', 'bob')])
            self.raises(NotLive('bob'), function, first(), line, [('ab', 'ann'), ('bc', 'bob')])
            self.raises(NotLive('bob'), function, first(), line, [('c', 'cid'), ('bc', 'bob'), ('ab', 'bob')])
        for thing in ([], None, [('bob', 'ab', None)], Odd(), 7, [None]):
            with self.assertRaises(NotLive) as held:
                is_must_call(first(), line, [('bc', 'bob')], thing)
            self.assertEqual(held.exception.name, 'bob')

    def test_the_first_wish_of_several_that_are_not_live(self):
        roster = Roster(['a', 'b', 'c', 'd'], [('x', ['a', 'b']), ('y', ['a', 'c']), ('z', ['a', 'd']), ('u', ['a'])])
        for function in (must_call, reach):
            for order in permutations([('x', 'b'), ('y', 'c'), ('z', 'd')]):
                self.raises(NotLive(order[0][1]), function, roster, ['a', 'b', 'c', 'd'], list(order))
                self.raises(NotLive(order[0][1]), function, roster, ['a', 'b', 'c', 'd'], [('u', 'a'), *order])

    def test_by_turns(self):
        self.by_turns(must_call, [(first(), ['ann', 'bob', 'cid'], [('bc', 'cid')]), (ring(), ['x', 'y', 'z'], [('xy', 'y')]),
                                  (first(), ['ann', 'bob', 'cid'], [])])
        self.by_turns(is_must_call, [(first(), ['ann', 'bob', 'cid'], [('bc', 'cid')], [('cid', 'bc', None)]),
                                     (first(), ['ann', 'cid', 'bob'], [('bc', 'cid')], [('cid', 'bc', None)]),
                                     (ring(), ['x', 'y', 'z'], [('xy', 'y')], [('y', 'xy', None)]),
                                     (first(), ['ann', 'bob', 'cid'], [], [])])


class TestIsMustCall(Case):
    def same(self, roster, line, wishes, thing):
        wanted = are_plain_reasons(roster, line, wishes, thing)
        self.assertIs(is_must_call(roster, line, wishes, thing), wanted, thing)
        return wanted

    def test_all_lists_of_tuples(self):
        found = set()
        roster = Roster(['a', 'b', 'c'], [('p', ['a', 'b']), ('q', ['b', 'c']), ('r', ['a', 'b', 'c']), ('s', ['c'])])
        cases = [(['b', 'a', 'c'], [('p', 'b'), ('s', 'c')]), (['a', 'b', 'c'], [('q', 'c'), ('r', 'a')]),
                 (['a', 'b', 'c'], [('q', 'c'), ('p', 'a'), ('r', 'a')]), (['b', 'a', 'c'], [('q', 'c'), ('r', 'b')]),
                 (['a', 'b', 'c'], [('r', 'b'), ('q', 'b')]), (['b', 'c', 'a'], [('r', 'c'), ('p', 'b'), ('q', 'b')])]
        for line, wishes in cases:
            items = list(product(roster.workers(), [*dict(wishes), 's'], [None, *roster.workers()]))
            for many in range(3):
                for thing in product(items, repeat=many):
                    found.add(self.same(roster, line, wishes, list(thing)))
        self.assertEqual(found, {True, False})

    def test_changes_of_reasons(self):
        found = []
        for roster, line, wishes in greater_cases():
            reasons = must_call(roster, line, wishes)
            self.assertIs(is_must_call(roster, line, wishes, reasons), True)
            for order in list(permutations(reasons))[:40]:
                found.append(self.same(roster, line, wishes, list(order)))
            for at, (worker, desk, other) in enumerate(reasons):
                self.assertIs(is_must_call(roster, line, wishes, reasons[:at] + reasons[at + 1:]), False)
                self.assertIs(is_must_call(roster, line, wishes, reasons + [reasons[at]]), False)
                for place in range(len(reasons) + 1):
                    self.assertIs(is_must_call(roster, line, wishes, reasons[:place] + [reasons[at]] + reasons[place:]), False)
                changed = [(name, desk, other) for name in [*roster.workers(), 'no']]
                changed += [(worker, name, other) for name in [*roster.desks(), 'no']]
                changed += [(worker, desk, name) for name in [None, 'no', *roster.workers()]]
                for item in changed:
                    found.append(self.same(roster, line, wishes, reasons[:at] + [item] + reasons[at + 1:]))
        self.assertEqual(set(found), {True, False})

    def test_workers_that_need_not_be_called(self):
        line, wishes = ['ann', 'bob', 'cid'], [('ab', 'ann'), ('bc', 'cid')]
        self.assertIs(is_must_call(first(), line, wishes, [('cid', 'bc', None), ('ann', 'ab', None)]), False)
        self.assertIs(is_must_call(first(), line, wishes, [('cid', 'bc', None), ('ann', 'ab', 'cid')]), False)
        self.assertIs(is_must_call(first(), line, wishes, [('ann', 'ab', None)]), False)
        self.assertIs(is_must_call(first(), line, wishes, [('cid', 'c', None)]), False)
        self.assertIs(is_must_call(first(), line, [*wishes, ('c', 'cid')], [('cid', 'c', None)]), False)
        self.assertIs(is_must_call(first(), line, [], []), True)

    def test_other_values(self):
        line, wishes = ['ann', 'bob', 'cid'], [('ab', 'ann'), ('bc', 'cid')]
        good = ('cid', 'bc', None)
        self.assertIs(is_must_call(first(), line, wishes, [good]), True)
        others = [good, (good,), {good}, {'cid': good}, [list(good)], [good[:2]], [good + (None,)], [('cid', 'bc', False)],
                  [('cid', 'bc', 'bob')], [('cid', 'bc', '')], [(Odd(), 'bc', None)], [('cid', Odd(), None)], [()],
                  [('cid', 'bc', Odd())], [Odd()], [[good]], [good, None], [None, good], ['cid'], 'cid', [(None, 'bc', None)],
                  [('cid', None, None)], [(b'cid', 'bc', None)], [('cid', ['bc'], None)], [(['cid'], 'bc', None)],
                  [('cid', 'bc', [])], [('cid', 'bc', 0)], [('cid', {}, None)], [good] * 2, [good] * 12000, nested(20),
                  [('bc', 'cid', None)], [(1, 2, 3)], [True], iter([good])]
        for thing in others + [value for value in odd_values() if value != []]:
            self.assertIs(is_must_call(first(), line, wishes, thing), False, repr(thing)[:80])
        for thing in odd_values():
            self.assertIs(is_must_call(first(), line, [('ab', 'ann')], thing), isinstance(thing, list) and thing == [])

    def test_other_values_in_each_place_of_a_later_reason(self):
        roster = Roster(['a', 'b'], [('x', ['a', 'b']), ('y', ['a', 'b']), ('a', ['a']), ('b', ['b'])])
        line, wishes = ['a', 'b'], [('x', 'a'), ('y', 'b')]
        good = [('b', 'y', None), ('a', 'x', 'b')]
        self.assertEqual(must_call(roster, line, wishes), good)
        for other in [None, 'a', 'c', '', 'y', ('b',), ['b'], b'b', Odd(), True, 1, {'b': 1}]:
            self.assertIs(is_must_call(roster, line, wishes, [good[0], ('a', 'x', other)]), False)
        for desk in [None, 'y', 'b', '', ('x',), ['x'], b'x', Odd(), True, {'x': 1}]:
            self.assertIs(is_must_call(roster, line, wishes, [good[0], ('a', desk, 'b')]), False)
        for worker in [None, 'x', '', ('a',), ['a'], b'a', Odd(), True, {'a': 1}]:
            self.assertIs(is_must_call(roster, line, wishes, [good[0], (worker, 'x', 'b')]), False)
        self.assertIs(is_must_call(roster, line, wishes, good), True)
        self.assertIs(is_must_call(roster, line, wishes, good[::-1]), False)

    def test_things_stay_as_they_are(self):
        line, wishes = ['ann', 'bob', 'cid'], [('ab', 'ann'), ('bc', 'cid')]
        for thing in ([('cid', 'bc', None)], [('cid', 'bc', None)] * 2, [['cid', 'bc', None]], [[], {'a': []}]):
            self.steady(is_must_call, first(), line, wishes, thing)


class TestReach(Case):
    def check(self, roster, line, wishes):
        """Check what is returned or raised, and return its kind."""
        called = plain_must(roster, line, wishes)
        live = plain_live(roster, line)
        own = {worker: [desk for desk in roster.desks() if set(roster.crew(desk)) & live == {worker}] for worker in called}
        lines = [other for other in lines_of(roster) if meets(plain_keepers(roster, other), wishes)]
        if lines and not all(own.values()):
            name = min(worker for worker in called if not own[worker])
            self.raises(NoOwn(name), reach, roster, line, wishes)
            return 'error'
        kind, found = self.steady(reach, roster, line, wishes)
        if not lines:
            self.assertEqual(kind, 'cycle')
            self.assertIs(is_cycle(roster, wishes, found), True)
            return kind
        self.assertEqual(kind, 'calls')
        servers, after = follow(roster, line, found)
        self.assertTrue(meets(plain_keepers(roster, after), wishes))
        self.assertEqual(sorted(servers), called)
        self.assertTrue(all(desk in own[server] for server, desk in zip(servers, found)))
        return kind

    def test_small_rosters(self):
        kinds = {self.check(*case) for case in small_cases()}
        self.assertEqual(kinds, {'cycle', 'calls', 'error'})

    def test_greater_rosters(self):
        kinds = {self.check(*case) for case in greater_cases()}
        self.assertEqual(kinds, {'cycle', 'calls', 'error'})

    def test_the_number_of_calls_against_a_search(self):
        for roster in [first(), ring(), *small_rosters()]:
            for line in lines_of(roster):
                far = distances(roster, line)
                for wishes in wishes_of(roster):
                    try:
                        kind, found = reach(roster, line, wishes)
                    except (NotLive, NoOwn):
                        continue
                    many = [many for after, many in far.items() if meets(plain_keepers(roster, list(after)), wishes)]
                    self.assertEqual(len(found) if kind == 'calls' else None, min(many, default=None))

    def test_a_settled_pool_takes_at_most_one_call_less_than_it_has_live_workers(self):
        for wishes in wishes_of(ring()):
            for line in lines_of(ring()):
                kind, found = reach(ring(), line, wishes)
                self.assertTrue(kind == 'cycle' or len(found) <= 2)

    def test_great_rosters(self):
        roster, wishes = chain(30)
        line = names(1) + names(30)[:0:-1]
        kind, calls = self.steady(reach, roster, line, wishes)
        self.assertEqual([kind, calls], ['calls', ['a' + name for name in names(30)[1:]]])
        self.assertTrue(meets(plain_keepers(roster, follow(roster, line, calls)[1]), wishes))
        self.assertEqual(reach(roster, names(30)[::-1], wishes), ('calls', []))
        everyone = Roster(names(40), [('a' + name, [name]) for name in names(40)] + [('b' + name, names(40)) for name in names(20)])
        wishes = [('b' + name, 'wbn') for name in names(20)]
        self.assertEqual(self.steady(reach, everyone, names(40), wishes), ('calls', ['awbn']))
        self.assertEqual(reach(everyone, names(40), wishes[1:] + [('bwaa', 'waa')])[0], 'cycle')

    def test_the_order_of_the_errors(self):
        roster = Roster(['a', 'b', 'c', 'd'], [('x', ['a', 'b']), ('y', ['a', 'b']), ('w', ['b', 'c']), ('z', ['d', 'a'])])
        line = ['a', 'b', 'c', 'd']
        cyclic = [('x', 'a'), ('y', 'b')]
        self.raises(NotLive('d'), reach, roster, line, cyclic + [('z', 'd')])
        self.raises(NotLive('d'), reach, roster, line, [('z', 'd'), *cyclic])
        self.assertEqual(reach(roster, line, cyclic)[0], 'cycle')
        self.raises(NotLive('c'), reach, roster, line, [('w', 'c'), ('z', 'd'), *cyclic])

    def test_the_least_worker_without_an_own_desk(self):
        roster = Roster(['a', 'b', 'c', 'd'], [('x', ['a', 'd']), ('y', ['b', 'd']), ('z', ['c', 'd']), ('ab', ['a', 'b']),
                                               ('bc', ['b', 'c']), ('ca', ['a', 'c']), ('d', ['d']), ('s', ['c', 'a'])])
        line = ['c', 'b', 'a', 'd']
        self.assertEqual(sorted(plain_live(roster, line)), ['a', 'b', 'c', 'd'])
        self.raises(NoOwn('a'), reach, roster, line, [('z', 'd'), ('ca', 'a')])
        self.raises(NoOwn('a'), reach, roster, line, [('ab', 'a'), ('bc', 'b'), ('z', 'c')])
        self.raises(NoOwn('b'), reach, roster, line, [('z', 'd'), ('bc', 'b')])
        self.raises(NoOwn('b'), reach, roster, line, [('bc', 'b'), ('s', 'c'), ('x', 'd')])
        self.assertEqual(reach(roster, line, [('x', 'd'), ('y', 'd')]), ('calls', ['d']))
        self.assertEqual(reach(roster, line, [('ab', 'b')]), ('calls', []))

    def test_own_desks_among_the_live_workers(self):
        # Only while c is not live, the desk bc is an own desk of b.
        roster = Roster(['a', 'b', 'c', 'd'], [('x', ['a', 'b']), ('bc', ['b', 'c']), ('cd', ['c', 'd'])])
        self.assertEqual(reach(roster, ['a', 'b', 'd', 'c'], [('x', 'b')]), ('calls', ['bc']))
        self.raises(NoOwn('b'), reach, roster, ['a', 'b', 'c', 'd'], [('x', 'b')])

    def test_by_turns(self):
        self.by_turns(reach, [(first(), ['ann', 'bob', 'cid'], [('bc', 'cid')]), (ring(), ['x', 'y', 'z'], [('xy', 'y')]),
                              (first(), ['ann', 'bob', 'cid'], [])])


if __name__ == '__main__':
    unittest.main()
