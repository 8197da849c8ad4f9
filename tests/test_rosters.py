"""Tests of [22], and of what [3] and [4] say about Rosters."""

import unittest
from itertools import permutations

from deskkeepers.errors import BadDesk, DeskError, Known, NoDesk, NoWorker, TooMany, Wrong
from deskkeepers.rosters import Roster
from samples import Odd, Unchanged, content, first, names, nested, odd_values, ring, small_rosters


def desks_of_one(many, worker='waa', letter='d'):
    """As many desks, each with the one worker as its crew."""
    return [(name, [worker]) for name in names(many, letter)]


class RosterCase(unittest.TestCase):
    def raises(self, error, value, function, *arguments):
        """The function raises this very error with this field."""
        with self.assertRaises(DeskError) as held:
            function(*arguments)
        self.assertIs(type(held.exception), error)
        self.assertEqual(list(vars(held.exception).values()), [value])


class TestMaking(RosterCase):
    def test_sizes(self):
        for many in (1, 2, 39, 40):
            for desks in (0, 1, 59, 60):
                roster = Roster(names(many), desks_of_one(desks))
                self.assertEqual(roster.workers(), names(many))
                self.assertEqual(roster.desks(), names(desks, 'd'))
                self.assertEqual(len(roster), desks)

    def test_workers_that_are_wrong(self):
        for workers in odd_values() + [[], names(41), names(60), ['a', 'b', 'a'], names(39) + ['waa'], [*names(3), 'B'],
                                       tuple(names(3)), dict.fromkeys(names(3)), set(names(3)), ['a', 'abcdefghi'],
                                       ['ab'] * 50000, names(676) * 70]:
            self.raises(Wrong, 0, Roster, workers, [])
            self.raises(Wrong, 0, Roster, workers, None)
            self.raises(Wrong, 0, Roster, workers, [None])

    def test_desks_that_are_wrong(self):
        for desks in (None, True, 0, 'ab', b'', (), (('a', ['waa']),), {}, {'a': ['waa']}, set(), Odd(), first(),
                      tuple(desks_of_one(3)), desks_of_one(61), desks_of_one(100), [None] * 61, [[]] * 50000):
            self.raises(Wrong, 1, Roster, names(1), desks)
            self.raises(Wrong, 1, Roster, names(40), desks)
            self.raises(Wrong, 0, Roster, names(41), desks)
            self.raises(Wrong, 0, Roster, [], desks)

    def bad(self, at, *desks):
        self.raises(BadDesk, at, Roster, ['a', 'b', 'c'], list(desks))

    def test_items_that_are_no_tuples_of_two(self):
        for item in odd_values() + [['x', ['a']], ('x',), ('x', ['a'], ['b']), (['a'], 'x'), ('x', 'a'), {'x': ['a']},
                                    ((), ()), (('x', ['a']),), 'xy', ['x', 'y'], ('x', ['a'], None)]:
            self.bad(0, item)
            self.bad(1, ('d', ['a']), item)
            self.bad(1, ('d', ['a']), item, item, ('d', []))
            self.bad(2, ('d', ['a']), ('e', ['b']), item)

    def test_names_of_desks(self):
        for name in odd_values() + ['abcdefghi', 'a\n', 'ab ', 'aB', 'a1', ['x']]:
            self.bad(0, (name, ['a']))
            self.bad(1, ('d', ['a']), (name, ['a', 'b']), ('d', ['a']))

    def test_crews(self):
        for crew in odd_values() + [[], 'a', ('a',), ('a', 'b'), {'a'}, {'a': True}, ['d'], ['a', 'd'], ['d', 'a'],
                                    ['a', 'a'], ['a', 'b', 'a'], ['a', 'b', 'c', 'd'], ['a', 'A'], [['a']],
                                    ['a', None], ['x'], ['a'] * 50000]:
            self.bad(0, ('x', crew))
            self.bad(2, ('d', ['a']), ('e', ['b', 'c']), ('x', crew), ('x', crew))

    def test_a_name_of_an_earlier_item(self):
        self.bad(1, ('d', ['a']), ('d', ['a']))
        self.bad(1, ('d', ['a']), ('d', ['b']))
        self.bad(2, ('d', ['a']), ('e', ['a']), ('d', ['b', 'c']))
        self.bad(2, ('d', ['a']), ('e', ['a']), ('e', ['a']), ('d', []))
        self.bad(3, ('d', ['a']), ('e', ['a']), ('f', ['a']), ('d', ['a']), ('e', ['a']))
        self.raises(BadDesk, 59, Roster, ['waa'], desks_of_one(59) + desks_of_one(1))

    def test_the_first_bad_item_of_several(self):
        kinds = [None, ('x',), ('X', ['a']), ('d', ['a']), ('x', 'a'), ('x', []), ('x', ['s']), ('x', ['a', 'a'])]
        for one, other in permutations(kinds, 2):
            self.bad(1, ('d', ['a']), one, other)
            self.bad(2, ('d', ['a']), ('e', ['b']), one, other)

    def test_desks_and_workers_may_have_the_same_names(self):
        roster = Roster(['a', 'b'], [('a', ['b']), ('b', ['a', 'b'])])
        self.assertEqual(content(roster), ([('a', ['b']), ('b', ['a', 'b'])], [('a', ['b']), ('b', ['a', 'b'])], 2))

    def test_a_sixty_first_bad_item_is_a_wrong_argument(self):
        self.raises(Wrong, 1, Roster, ['waa'], desks_of_one(60) + [None])
        self.raises(BadDesk, 59, Roster, ['waa'], desks_of_one(59) + [None])


    def test_arguments_stay_as_they_were(self):
        workers = ['c', 'a', 'b']
        for desks in ([('y', ['c', 'b']), ('x', ['b', 'a'])], [('y', ['c', 'b']), ('x', [])], [('x', ['c', 'b'])] * 61):
            with Unchanged(self, workers, desks):
                try:
                    Roster(workers, desks)
                except DeskError:
                    pass


class TestQueries(RosterCase):
    def test_ascending_order(self):
        for workers in permutations(['ann', 'b', 'bob']):
            for desks in permutations([('z', ['bob', 'b', 'ann']), ('az', ['bob', 'ann']), ('a', ['b'])]):
                roster = Roster(list(workers), list(desks))
                self.assertEqual(roster.workers(), ['ann', 'b', 'bob'])
                self.assertEqual(roster.desks(), ['a', 'az', 'z'])
                self.assertEqual([roster.crew(desk) for desk in roster.desks()],
                                 [['b'], ['ann', 'bob'], ['ann', 'b', 'bob']])
                self.assertEqual([roster.desks_of(worker) for worker in roster.workers()],
                                 [['az', 'z'], ['a', 'z'], ['az', 'z']])
        many = Roster(names(40)[::-1], [(name, names(40)[::-1]) for name in names(60, 'd')[::-1]])
        self.assertEqual(many.workers(), names(40))
        self.assertEqual(many.desks(), names(60, 'd'))
        self.assertEqual(many.crew('daa'), names(40))
        self.assertEqual(many.desks_of('waa'), names(60, 'd'))

    def test_names_that_the_roster_does_not_have(self):
        roster = first()
        for name in ('d', 'abc', 'a', 'ann', 'bob', 'cid', 'zz', 'abcdefgh'):
            self.raises(NoDesk, name, roster.crew, name)
        for name in ('a', 'ab', 'bc', 'c', 'dan', 'an', 'annn'):
            self.raises(NoWorker, name, roster.desks_of, name)
        self.raises(NoDesk, 'a', Roster(['a'], []).crew, 'a')
        self.assertEqual(content(roster), content(first()))

    def test_errors_keep_the_very_name(self):
        name = ''.join(['d', 'a', 'n'])
        for function in (first().crew, first().desks_of):
            with self.assertRaises(DeskError) as held:
                function(name)
            self.assertIs(held.exception.name, name)

    def test_workers_of_no_crew(self):
        roster = Roster(['a', 'b', 'c'], [('x', ['b'])])
        self.assertEqual([roster.desks_of(worker) for worker in roster.workers()], [[], ['x'], []])
        self.assertEqual(roster.workers(), ['a', 'b', 'c'])

    def test_no_desks(self):
        roster = Roster(['b', 'a'], [])
        self.assertEqual([roster.workers(), roster.desks(), roster.desks_of('a'), len(roster)], [['a', 'b'], [], [], 0])

    def test_changing_what_was_passed_in(self):
        workers, crew, desks = ['bob', 'ann', 'cid'], ['cid', 'bob'], []
        desks.extend([('c', ['cid']), ('bc', crew), ('ab', ['bob', 'ann'])])
        with Unchanged(self, workers, crew, desks):
            roster = Roster(workers, desks)
        workers.append('dan')
        workers.remove('ann')
        crew.clear()
        desks[2][1].reverse()
        del desks[0]
        self.assertEqual(content(roster), content(first()))
        self.assertTrue(roster == first())

    def test_changing_what_was_returned(self):
        roster = first()
        for ask in (roster.workers, roster.desks, lambda: roster.crew('ab'), lambda: roster.desks_of('cid')):
            answer = ask()
            before = list(answer)
            answer.append('zoe')
            self.assertEqual(ask(), before)
            answer.clear()
            self.assertEqual(ask(), before)
            self.assertIsNot(ask(), ask())
        self.assertEqual(content(roster), content(first()))

    def test_the_same_answers_each_time(self):
        for roster in small_rosters():
            self.assertEqual(content(roster), content(roster))


class TestEqual(unittest.TestCase):
    def same(self, one, other, wanted):
        self.assertIs(one == other, wanted)
        self.assertIs(other == one, wanted)
        self.assertIs(one != other, not wanted)
        self.assertIs(other != one, not wanted)

    def test_other_orders(self):
        for workers in permutations(['ann', 'bob', 'cid']):
            for desks in permutations([('ab', ['bob', 'ann']), ('bc', ['cid', 'bob']), ('c', ['cid'])]):
                self.same(Roster(list(workers), list(desks)), first(), True)
        roster = first()
        self.same(roster, roster, True)

    def test_one_change(self):
        workers = ['ann', 'bob', 'cid']
        desks = [('ab', ['ann', 'bob']), ('bc', ['bob', 'cid']), ('c', ['cid'])]
        for other in (Roster(workers + ['dan'], desks), Roster(['ann', 'bob', 'cid', 'a'], desks),
                      Roster(workers, desks[1:]), Roster(workers, desks[:2]), Roster(workers, []),
                      Roster(workers, desks + [('d', ['cid'])]),
                      Roster(workers, [('ab', ['ann']), *desks[1:]]),
                      Roster(workers, [('ab', ['ann', 'cid']), *desks[1:]]),
                      Roster(workers, [('ab', ['ann', 'bob', 'cid']), *desks[1:]]),
                      Roster(workers, [('aa', ['ann', 'bob']), *desks[1:]]),
                      Roster(workers, [*desks[:2], ('c', ['ann'])]),
                      Roster(workers, [('bc', ['ann', 'bob']), ('ab', ['bob', 'cid']), desks[2]]),
                      ring()):
            self.same(first(), other, False)

    def test_small_rosters_differ(self):
        rosters = small_rosters()
        for at, one in enumerate(rosters):
            for number, other in enumerate(small_rosters()):
                self.same(one, other, at == number)

    def test_workers_of_no_crew_count(self):
        self.same(Roster(['a'], []), Roster(['a', 'b'], []), False)
        self.same(Roster(['a'], []), Roster(['b'], []), False)
        self.same(Roster(['a', 'b'], [('x', ['a'])]), Roster(['a', 'c'], [('x', ['a'])]), False)
        self.same(Roster(['b', 'a'], []), Roster(['a', 'b'], []), True)

    def test_nothing_else_is_equal(self):
        roster = first()
        others = [value for value in odd_values() if not isinstance(value, (Roster, Odd))]
        parts = [(desk, roster.crew(desk)) for desk in roster.desks()]
        for other in others + [3, len(roster), roster.workers(), parts, (roster.workers(), parts), dict(parts), [roster],
                               (roster,), vars(roster), str(roster), repr(roster), Roster, nested(3)]:
            self.same(roster, other, False)
        self.assertIs(roster == Odd(), False)
        self.assertIs(roster != Odd(), True)

    def test_an_object_with_the_same_fields_is_no_roster(self):
        other = type('Other', (), {})()
        vars(other).update(vars(first()))
        self.same(first(), other, False)


class TestCut(RosterCase):
    def test_cut_to_each_choice(self):
        roster = first()
        for workers, wanted in ((['ann'], [('ab', ['ann'])]),
                                (['bob'], [('ab', ['bob']), ('bc', ['bob'])]),
                                (['cid'], [('bc', ['cid']), ('c', ['cid'])]),
                                (['bob', 'ann'], [('ab', ['ann', 'bob']), ('bc', ['bob'])]),
                                (['cid', 'ann'], [('ab', ['ann']), ('bc', ['cid']), ('c', ['cid'])]),
                                (['cid', 'bob'], [('ab', ['bob']), ('bc', ['bob', 'cid']), ('c', ['cid'])])):
            for order in (workers, workers[::-1]):
                with Unchanged(self, order):
                    rest = roster.cut(order)
                self.assertIs(type(rest), Roster)
                self.assertEqual(rest.workers(), sorted(workers))
                self.assertEqual(content(rest)[0], wanted)
                self.assertTrue(rest == Roster(workers, wanted))
        self.assertEqual(content(roster), content(first()))

    def test_all_workers_in_any_order(self):
        for workers in permutations(['ann', 'bob', 'cid']):
            rest = first().cut(list(workers))
            self.assertTrue(rest == first())
            self.assertEqual(content(rest), content(first()))

    def test_workers_of_no_crew_stay(self):
        roster = Roster(['a', 'b', 'c'], [('x', ['b']), ('y', ['b', 'c'])])
        self.assertEqual(content(roster.cut(['a'])), ([], [('a', [])], 0))
        self.assertEqual(content(roster.cut(['c', 'a'])), ([('y', ['c'])], [('a', []), ('c', ['y'])], 1))

    def test_the_list_may_change_afterwards(self):
        workers = ['cid', 'ann']
        rest = first().cut(workers)
        workers.append('bob')
        self.assertTrue(rest == first().cut(['ann', 'cid']))

    def test_cuts_of_cuts(self):
        for roster in small_rosters():
            self.assertTrue(roster.cut(['a', 'b']).cut(['b']) == roster.cut(['b']))


class TestBeside(RosterCase):
    def test_all_parts(self):
        one = Roster(['b', 'd'], [('x', ['d', 'b']), ('z', ['b'])])
        other = Roster(['c', 'a'], [('y', ['c', 'a']), ('w', ['a'])])
        wanted = Roster(['a', 'b', 'c', 'd'], [('w', ['a']), ('x', ['b', 'd']), ('y', ['a', 'c']), ('z', ['b'])])
        for both in (one.beside(other), other.beside(one)):
            self.assertIs(type(both), Roster)
            self.assertTrue(both == wanted)
            self.assertEqual(content(both), content(wanted))
        self.assertEqual(content(one), content(Roster(['b', 'd'], [('x', ['d', 'b']), ('z', ['b'])])))
        self.assertEqual(content(other), content(Roster(['c', 'a'], [('y', ['c', 'a']), ('w', ['a'])])))

    def test_worker_and_desk_of_one_name_do_not_clash(self):
        both = Roster(['a'], [('b', ['a'])]).beside(Roster(['b'], [('a', ['b'])]))
        self.assertEqual(content(both)[0], [('a', ['b']), ('b', ['a'])])

    def test_without_desks(self):
        self.assertTrue(Roster(['a'], []).beside(Roster(['b'], [])) == Roster(['a', 'b'], []))

    def test_the_least_worker_of_both(self):
        one = Roster(['d', 'c', 'b'], [('x', ['d'])])
        for workers, least in ((['b'], 'b'), (['d', 'a'], 'd'), (['e', 'd', 'c'], 'c'), (['d', 'c', 'b', 'a'], 'b')):
            for desks in ([], [('x', workers[:1])], [('a', workers[:1])]):
                other = Roster(workers, desks)
                self.raises(Known, least, one.beside, other)
                self.raises(Known, least, other.beside, one)
        self.raises(Known, 'b', one.beside, one)
        self.assertEqual(content(one), content(Roster(['b', 'c', 'd'], [('x', ['d'])])))

    def test_the_least_desk_of_both(self):
        one = Roster(['w'], [('c', ['w']), ('b', ['w']), ('d', ['w'])])
        for desks, least in ((['b'], 'b'), (['d', 'a'], 'd'), (['e', 'd', 'c'], 'c'), (['d', 'c', 'b', 'a'], 'b')):
            other = Roster(['v'], [(desk, ['v']) for desk in desks])
            self.raises(Known, least, one.beside, other)
            self.raises(Known, least, other.beside, one)

    def both(self, workers, desks, more_workers, more_desks):
        one = Roster(names(workers, 'a'), desks_of_one(desks, 'aaa', 'a'))
        other = Roster(names(more_workers, 'b'), desks_of_one(more_desks, 'baa', 'b'))
        return one, other

    def test_as_many_as_a_roster_may_have(self):
        for sizes in ((20, 30, 20, 30), (39, 60, 1, 0), (1, 0, 39, 60), (39, 59, 1, 1), (40 - 7, 1, 7, 59)):
            one, other = self.both(*sizes)
            both = one.beside(other)
            self.assertEqual(both.workers(), sorted(one.workers() + other.workers()))
            self.assertEqual(both.desks(), sorted(one.desks() + other.desks()))

    def test_too_many_workers(self):
        for sizes in ((40, 0, 1, 0), (1, 0, 40, 0), (21, 30, 20, 30), (40, 60, 40, 60), (21, 60, 20, 1)):
            one, other = self.both(*sizes)
            self.raises(TooMany, 40, one.beside, other)

    def test_too_many_desks(self):
        for sizes in ((1, 60, 1, 1), (1, 1, 1, 60), (20, 31, 20, 30), (20, 60, 20, 60)):
            one, other = self.both(*sizes)
            self.raises(TooMany, 60, one.beside, other)

    def test_the_order_of_the_errors(self):
        many, more = names(40), names(39, 'a') + ['waa']
        full = Roster(many, desks_of_one(60))
        self.raises(Known, 'waa', full.beside, Roster(more, desks_of_one(60)))
        self.raises(Known, 'daa', full.beside, Roster(names(40, 'a'), desks_of_one(60, 'aaa')))
        self.raises(TooMany, 40, full.beside, Roster(names(40, 'a'), desks_of_one(60, 'aaa', 'e')))
        self.raises(TooMany, 60, Roster(names(20), desks_of_one(60)).beside,
                    Roster(names(20, 'a'), desks_of_one(60, 'aaa', 'e')))
        self.raises(Known, 'z', Roster(['z'], [('a', ['z'])]).beside, Roster(['z'], [('a', ['z'])]))
        self.assertEqual(content(full), content(Roster(many, desks_of_one(60))))


if __name__ == '__main__':
    unittest.main()
