"""Tests of [90] and [91]."""

import unittest
from random import Random

from deskkeepers.errors import Closed, Known, NoDesk, NoWorker, Nothing, Stopped, TooMany, Wrong
from deskkeepers.pools import Pool
from deskkeepers.rosters import Roster
from modelpool import Model, random_deed, told_of
from plain import Case, outcome, spoil
from samples import Odd, Unchanged, first, lines_of, mixed_rosters, names, nested, odd_values, ring, small_rosters, wide

ABC = ['ann', 'bob', 'cid']


def full(many, roster=None):
    """A pool with as many deeds in its log, all of them calls."""
    pool = Pool(roster or first(), (roster or first()).workers())
    for at in range(many):
        pool.call(pool.desks()[at % 2])
    return pool


class PoolCase(Case):
    def refused(self, pool, error, function, *arguments):
        """The deed raises the error, and everything is as it was, also what can be redone."""
        before = told_of(pool)
        ahead = told_of(self.done_again(pool))
        self.raises(error, function, *arguments)
        self.assertEqual(told_of(pool), before)
        self.assertEqual(told_of(self.done_again(pool)), ahead)

    def done_again(self, pool):
        """A copy with all deeds done again that can be."""
        copy = pool.copied()
        while outcome(copy.redo) is None:
            pass
        return copy


class TestMaking(PoolCase):
    def test_a_new_pool(self):
        for roster in [first(), ring(), wide(), *small_rosters()[::5], Roster(['a'], []), *mixed_rosters(3, 4, 4)]:
            for line in (roster.workers(), roster.workers()[::-1]):
                with Unchanged(self, line):
                    pool = Pool(roster, line)
                self.assertEqual(told_of(pool), Model(roster, line).answers())
                self.assertEqual([len(pool), pool.log(), pool.servers(), pool.line()], [0, [], [], line])
                self.assertTrue(pool.roster() == roster)

    def test_wrong_arguments(self):
        for value in odd_values() + ['ann', ABC, Roster, [first()], (first(),), {'ann': first()}]:
            if not isinstance(value, Roster):
                for line in (ABC, None, value):
                    self.raises(Wrong(0), Pool, value, line)
            self.raises(Wrong(1), Pool, first(), value if value != ABC or type(value) is not list else ABC[:2])
        for line in (['ann', 'bob'], [*ABC, 'dan'], ['ann', 'bob', 'bob'], ['ann', 'bob', 'dan'], tuple(ABC), {name: 1 for name in ABC}, [ABC],
                     ['ann', 'bob', 'cid', 'cid'], ['ann', 'bob', b'cid'], ['ann', 'bob', None], ['ann', 'bob', ['cid']], ['ann', 'bob', Odd()]):
            self.raises(Wrong(1), Pool, first(), line)

    def test_the_line_may_change_afterwards(self):
        line = list(ABC)
        pool = Pool(first(), line)
        line.reverse()
        line.append('dan')
        self.assertEqual(pool.line(), ABC)
        pool.line().clear()
        self.assertEqual(pool.line(), ABC)


class TestModel(PoolCase):
    def both(self, pool, model, method, *arguments):
        """The pool and the model answer the same."""
        with Unchanged(self, *arguments):
            found = outcome(getattr(pool, method), *arguments)
        self.assertEqual(found, outcome(getattr(model, method), *arguments), (method, arguments))
        return found

    def test_random_deeds(self):
        seen = set()
        for seed in range(60):
            chance = Random(seed)
            roster = [first(), ring(), Roster(['a'], [('x', ['a']), ('y', ['a'])]), *mixed_rosters(2, 4, 5)][seed % 5]
            pool, model = Pool(roster, roster.workers()), Model(roster, roster.workers())
            workers, desks = roster.workers() + ['new', 'newer', 'a'], roster.desks() + ['no'][:seed % 2]
            for _ in range(60):
                kind = chance.randrange(10)
                deed = random_deed(chance, workers, desks)
                if kind < 5:
                    found = self.both(pool, model, deed[0], *deed[1:])
                elif kind < 7:
                    found = self.both(pool, model, 'late', chance.randint(0, len(pool)), deed)
                else:
                    found = self.both(pool, model, chance.choice(['undo', 'undo', 'redo']))
                seen.add(found[0] if isinstance(found, tuple) else type(found).__name__)
                self.assertEqual(told_of(pool), model.answers())
        self.assertEqual(seen, {'NoneType', 'str', 'NoDesk', 'Closed', 'NoWorker', 'Known', 'Stopped', 'Nothing'})

    def test_copies_that_go_their_own_way(self):
        for seed in range(20):
            chance = Random(seed)
            pairs = [(Pool(first(), ABC), Model(first(), ABC))]
            for _ in range(40):
                pool, model = chance.choice(pairs)
                deed = random_deed(chance, ABC + ['dan'], ['ab', 'bc', 'c'])
                kind = chance.randrange(6)
                if kind == 0 and len(pairs) < 5:
                    pairs.append((pool.copied(), model.copied()))
                elif kind < 4:
                    self.both(pool, model, deed[0], *deed[1:])
                else:
                    self.both(pool, model, chance.choice(['undo', 'redo']))
                for one, other in pairs:
                    self.assertEqual(told_of(one), other.answers())


class TestDeeds(PoolCase):
    def test_wrong_arguments(self):
        pool = Pool(first(), ABC)
        pool.call('bc')
        pool.undo()
        values = odd_values() + ['abcdefghi', 'a\n', 'a ', ('ab',), ['ab'], Odd, nested(19)]
        for value in values:
            self.refused(pool, Wrong(0), pool.call, value)
            self.refused(pool, Wrong(0), pool.retire, value)
            for desks in ([], ['ab'], None, value):
                self.refused(pool, Wrong(0), pool.hire, value, desks)
            if value != [] and value != ['ab'] or type(value) is not list:
                self.refused(pool, Wrong(1), pool.hire, 'dan', value)
                self.refused(pool, Wrong(1), pool.hire, 'ann', value)
        for desks in (['ab', 'ab'], ['no', 'no'], ['ab', 'AB'], ('ab',), ('ab', 'bc'), 'ab', {'ab': 1}, {'ab'}, [['ab']], ['ab', None], ['ab', Odd()]):
            self.refused(pool, Wrong(1), pool.hire, 'dan', desks)

    def test_no_desk_before_closed(self):
        pool = Pool(first(), ABC)
        for name in ('no', 'ann', 'a', 'abc'):
            self.refused(pool, NoDesk(name), pool.call, name)
        pool.retire('cid')
        self.refused(pool, Closed('c'), pool.call, 'c')
        self.assertEqual(pool.call('bc'), 'bob')
        pool.hire('dan', ['c'])
        self.assertEqual(pool.call('c'), 'dan')

    def test_retirements(self):
        pool = Pool(first(), ABC)
        for name in ('no', 'ab', 'an', 'anna'):
            self.refused(pool, NoWorker(name), pool.retire, name)
        self.assertIsNone(pool.retire('bob'))
        self.refused(pool, NoWorker('bob'), pool.retire, 'bob')
        self.assertEqual(told_of(pool)['crews'], [['ann'], ['cid'], ['cid']])
        self.assertIsNone(pool.retire('cid'))
        self.assertEqual([pool.keepers(), pool.live(), pool.desks()], [[('ab', 'ann')], ['ann'], ['ab', 'bc', 'c']])
        self.assertIsNone(pool.retire('ann'))
        self.assertEqual([pool.line(), pool.keepers(), pool.live(), pool.roster()], [[], [], [], None])
        for desk in ('ab', 'bc', 'c'):
            self.refused(pool, Closed(desk), pool.call, desk)
            self.assertEqual(pool.crew(desk), [])
        self.refused(pool, NoWorker('ann'), pool.retire, 'ann')
        pool.hire('ann', [])
        self.assertTrue(pool.roster() == Roster(['ann'], []))
        pool.hire('zoe', ['bc'])
        self.assertTrue(pool.roster() == Roster(['ann', 'zoe'], [('bc', ['zoe'])]))
        self.assertEqual(pool.log(), [('retire', 'bob'), ('retire', 'cid'), ('retire', 'ann'), ('hire', 'ann', []), ('hire', 'zoe', ['bc'])])

    def test_hires(self):
        pool = Pool(first(), ABC)
        self.assertIsNone(pool.hire('aaa', ['c', 'ab']))
        self.assertEqual([pool.line(), pool.crew('ab'), pool.crew('bc'), pool.crew('c')],
                         [[*ABC, 'aaa'], ['aaa', 'ann', 'bob'], ['bob', 'cid'], ['aaa', 'cid']])
        self.assertEqual(pool.keepers(), [('ab', 'ann'), ('bc', 'bob'), ('c', 'cid')])
        self.assertEqual(pool.log(), [('hire', 'aaa', ['c', 'ab'])])
        self.refused(pool, Known('aaa'), pool.hire, 'aaa', ['no'])
        self.refused(pool, Known('ann'), pool.hire, 'ann', [])
        self.refused(pool, NoDesk('no'), pool.hire, 'dan', ['ab', 'no', 'never'])
        self.refused(pool, NoDesk('never'), pool.hire, 'dan', ['never', 'ab', 'no'])
        pool.retire('ann')
        pool.hire('ann', ['ab'])
        self.assertEqual([pool.line(), pool.crew('ab')], [['bob', 'cid', 'aaa', 'ann'], ['aaa', 'ann', 'bob']])

    def test_forty_workers(self):
        pool = Pool(wide(), names(40))
        self.refused(pool, Known('waa'), pool.hire, 'waa', ['no'])
        self.refused(pool, NoDesk('no'), pool.hire, 'new', ['no'])
        self.refused(pool, TooMany(40), pool.hire, 'new', [])
        self.refused(pool, TooMany(40), pool.hire, 'new', names(60, 'd'))
        self.refused(pool, Stopped(0), pool.late, 0, ('hire', 'new', []))
        pool.retire('waa')
        self.assertIsNone(pool.hire('new', names(60, 'd')))
        self.refused(pool, TooMany(40), pool.hire, 'newer', [])
        self.refused(pool, Stopped(1), pool.late, 0, ('retire', 'waa'))
        self.refused(pool, Stopped(0), pool.late, 0, ('hire', 'newer', []))
        self.assertTrue(all('new' in pool.crew(desk) for desk in pool.desks()))

    def test_the_last_of_the_errors_at_two_hundred_deeds(self):
        roster = Roster(names(40), [('a', names(40)), ('b', ['waa']), ('c', ['wab'])])
        pool = Pool(roster, names(40))
        pool.retire('wab')
        for at in range(198):
            pool.call('ab'[at % 2])
        self.assertEqual(pool.call('a'), 'waa')
        self.assertEqual(len(pool), 200)
        pool.undo()
        pool.redo()
        for error, function, arguments in (
                (Wrong(0), pool.call, [None]), (NoDesk('no'), pool.call, ['no']), (Closed('c'), pool.call, ['c']), (TooMany(200), pool.call, ['a']),
                (Wrong(0), pool.retire, [1]), (NoWorker('wab'), pool.retire, ['wab']), (TooMany(200), pool.retire, ['waa']),
                (Wrong(0), pool.hire, [None, None]), (Wrong(1), pool.hire, ['waa', None]), (Known('waa'), pool.hire, ['waa', ['no']]),
                (NoDesk('no'), pool.hire, ['new', ['a', 'no']]), (TooMany(200), pool.hire, ['new', ['a']]), (TooMany(200), pool.hire, ['wab', []]),
                (Wrong(0), pool.late, [201, ('call', 'a')]), (Wrong(1), pool.late, [200, None]), (TooMany(200), pool.late, [200, ('call', 'a')]),
                (TooMany(200), pool.late, [0, ('call', 'no')]), (TooMany(200), pool.late, [0, ('call', 'a')]), (Nothing(), pool.redo, [])):
            self.refused(pool, error, function, *arguments)
        pool.undo()
        self.assertEqual(len(pool), 199)
        self.assertIsNone(pool.hire('wab', ['c']))
        self.refused(pool, TooMany(40), pool.hire, 'new', [])
        self.refused(pool, TooMany(200), pool.retire, 'wab')
        self.assertEqual(len(pool.servers()), 198)

    def test_forty_workers_and_two_hundred_deeds(self):
        pool = Pool(wide(), names(40))
        for at in range(200):
            pool.call(names(60, 'd')[at % 60])
        self.refused(pool, TooMany(40), pool.hire, 'new', [])
        self.refused(pool, TooMany(200), pool.retire, 'waa')
        model = Model(wide(), names(40))
        model.deeds = pool.log()
        self.assertEqual(told_of(pool), model.answers())

    def test_deeds_are_copied(self):
        pool = Pool(first(), ABC)
        desks = ['ab', 'c']
        pool.hire('dan', desks)
        deed = ('hire', 'eve', ['bc'])
        pool.late(0, deed)
        before = told_of(pool)
        desks.append('bc')
        deed[2].append('c')
        self.assertEqual(told_of(pool), before)
        log = pool.log()
        log[0][2].append('no')
        log.clear()
        self.assertEqual(told_of(pool), before)
        pool.late(2, ('call', 'ab'))
        pool.undo()
        self.assertEqual(told_of(pool), before)


class TestLate(PoolCase):
    def test_wrong_indexes(self):
        for many in (0, 2):
            pool = full(many)
            deed = ('call', 'ab')
            for at in (-1, many + 1, 10 ** 39, -10 ** 39, True, False, None, '0', [0], (0,), b'0', {}, Odd(), first(), nested(20)):
                self.refused(pool, Wrong(0), pool.late, at, deed)
                self.refused(pool, Wrong(0), pool.late, at, None)
            for at in range(many + 1):
                self.refused(pool, Wrong(1), pool.late, at, None)

    def test_deeds_of_every_wrong_shape(self):
        pool = full(2)
        good = [('call', 'ab'), ('retire', 'ann'), ('hire', 'dan', ['ab'])]
        values = odd_values() + ['dan', 'call', Odd, nested(17)]
        wrong = [*values, [*good[0]], [*good[2]], good, (), ('call',), ('retire',), ('hire',), ('hire', 'dan'), ('call', 'ab', []), ('call', 'ab', 'c'),
                 ('retire', 'ann', []), ('hire', 'dan', [], []), ('call', 'ab', None), ('Call', 'ab'), ('late', 'ab'), ('undo',), ('redo', 'ab'),
                 ('fire', 'ann'), ('late', 0, good[0]), ('hire', 'dan', 'ab'), ('hire', 'dan', ('ab',)), ('hire', 'dan', ['ab', 'ab']),
                 ('hire', 'dan', ['no', 'no']), ('hire', 'dan', ['ab', 'AB']), ('hire', 'dan', None), ('hire', ['ab'], 'dan'), ('call ab',), 'call ab',
                 ('ab', 'call'), {'call': 'ab'}, {0: 'call', 1: 'ab'}, (good[0],), (b'call', 'ab'), ('call', b'ab'), (['call'], 'ab'), ('call', ['ab'])]
        for deed in good:
            for at in range(len(deed)):
                for value in values:
                    changed = (*deed[:at], value, *deed[at + 1:])
                    is_right = type(value) is (list if at == 2 else str) and value in ([], 'dan', 'call') and (at > 0 or value == 'call' and len(deed) == 2)
                    if not is_right:
                        wrong.append(changed)
        for deed in wrong:
            for at in (0, 2):
                self.refused(pool, Wrong(1), pool.late, at, deed)
            self.refused(pool, Wrong(0), pool.late, 3, deed)
        for deed in (('hire', 'dan', []), ('call', 'ab'), ('retire', 'ann'), ('hire', 'call', ['ab', 'c'])):
            copy = pool.copied()
            self.assertIsNone(copy.late(1, deed))
            self.assertEqual(copy.log()[1], deed)

    def test_every_index(self):
        for many in (0, 1, 5):
            for at in range(many + 1):
                for deed in (('call', 'c'), ('hire', 'dan', ['bc']), ('retire', 'ann')):
                    pool, model = full(many), Model(first(), ABC)
                    model.deeds = pool.log()
                    self.assertIsNone(pool.late(at, deed))
                    model.late(at, deed)
                    self.assertEqual(told_of(pool), model.answers())
                    self.assertEqual(pool.log()[at], deed)
                    self.raises(Nothing(), pool.redo)

    def test_stopped_at_its_own_deed_and_at_a_later_one(self):
        pool = Pool(first(), ABC)
        pool.call('c')
        pool.hire('dan', ['c'])
        pool.retire('cid')
        pool.call('bc')
        pool.call('c')
        pool.undo()
        pool.undo()
        self.assertEqual(len(pool), 3)
        for at, deed, stopped in ((0, ('call', 'no'), 0), (1, ('call', 'no'), 1), (3, ('retire', 'cid'), 3), (3, ('hire', 'dan', []), 3),
                                  (0, ('retire', 'dan'), 0), (0, ('retire', 'cid'), 1), (0, ('hire', 'dan', []), 2), (1, ('hire', 'dan', []), 2),
                                  (1, ('retire', 'cid'), 3), (2, ('retire', 'cid'), 3), (2, ('hire', 'dan', []), 2), (3, ('hire', 'eve', ['no']), 3),
                                  (0, ('hire', 'cid', []), 0)):
            self.refused(pool, Stopped(stopped), pool.late, at, deed)
        pool.redo()
        pool.redo()
        self.assertEqual(pool.log()[3:], [('call', 'bc'), ('call', 'c')])
        # With bob retired nobody is left for the call of bc after cid's retirement.
        self.refused(pool, Stopped(4), pool.late, 0, ('retire', 'bob'))
        self.refused(pool, Stopped(4), pool.late, 3, ('retire', 'bob'))
        self.assertIsNone(pool.late(4, ('retire', 'bob')))
        self.assertEqual(pool.servers(), ['cid', 'bob', 'dan'])

    def test_two_hundred_deeds(self):
        for at in (0, 100, 198, 199):
            pool = full(199)
            pool.late(at, ('call', 'c'))
            self.assertEqual([len(pool), pool.log()[at]], [200, ('call', 'c')])
            self.refused(pool, TooMany(200), pool.late, at, ('call', 'no'))
            self.refused(pool, TooMany(200), pool.late, 200, ('call', 'c'))
        pool = full(198)
        pool.retire('ann')
        self.refused(pool, Stopped(199), pool.late, 0, ('retire', 'ann'))
        self.refused(pool, Stopped(0), pool.late, 0, ('call', 'no'))
        self.refused(pool, Stopped(199), pool.late, 199, ('retire', 'ann'))
        self.refused(pool, Stopped(199), pool.late, 5, ('retire', 'ann'))


class TestUndo(PoolCase):
    def test_nothing(self):
        pool = Pool(first(), ABC)
        self.refused(pool, Nothing(), pool.undo)
        self.refused(pool, Nothing(), pool.redo)
        pool.call('ab')
        self.refused(pool, Nothing(), pool.redo)
        self.assertIsNone(pool.undo())
        self.refused(pool, Nothing(), pool.undo)
        self.assertIsNone(pool.redo())
        self.refused(pool, Nothing(), pool.redo)

    def pool_of_all_deeds(self):
        pool = Pool(first(), ABC)
        states = [told_of(pool)]
        for deed in (('call', 'bc'), ('hire', 'dan', ['c', 'ab']), ('retire', 'cid'), ('call', 'c'), ('retire', 'dan'), ('hire', 'cid', ['bc'])):
            getattr(pool, deed[0])(*deed[1:])
            states.append(told_of(pool))
        return pool, states

    def test_back_and_forth(self):
        pool, states = self.pool_of_all_deeds()
        for back in range(7):
            for _ in range(back):
                pool.undo()
            self.assertEqual(told_of(pool), states[6 - back])
            for at in range(7 - back, 7):
                pool.redo()
                self.assertEqual(told_of(pool), states[at])
            self.refused(pool, Nothing(), pool.redo)
        for at in range(5, -1, -1):
            self.assertIsNone(pool.undo())
            self.assertEqual(told_of(pool), states[at])
        self.refused(pool, Nothing(), pool.undo)

    def test_redo_after_another_deed_and_after_a_refused_one(self):
        for deed in (('call', 'bc'), ('retire', 'ann'), ('hire', 'eve', [])):
            pool, _ = self.pool_of_all_deeds()
            pool.undo()
            pool.undo()
            for error, function, arguments in ((NoDesk('no'), pool.call, ['no']), (NoWorker('eve'), pool.retire, ['eve']), (Wrong(0), pool.call, [1]),
                                               (Known('ann'), pool.hire, ['ann', []]), (Wrong(0), pool.late, [9, deed]), (Wrong(1), pool.late, [0, None]),
                                               (Stopped(0), pool.late, [0, ('call', 'no')])):
                self.refused(pool, error, function, *arguments)
            copy = pool.copied()
            copy.redo()
            copy.redo()
            getattr(pool, deed[0])(*deed[1:])
            self.refused(pool, Nothing(), pool.redo)
            pool.undo()
            pool.redo()
            self.refused(pool, Nothing(), pool.redo)
            self.assertEqual(len(copy), 6)

    def test_redo_after_late(self):
        for at in range(5):
            pool, _ = self.pool_of_all_deeds()
            pool.undo()
            pool.undo()
            pool.late(at, ('call', 'ab'))
            self.refused(pool, Nothing(), pool.redo)
            pool.undo()
            pool.redo()
            self.refused(pool, Nothing(), pool.redo)

    def test_two_hundred_deeds(self):
        pool = full(200)
        state = told_of(pool)
        for many in (1, 3, 200):
            for _ in range(many):
                pool.undo()
            self.assertEqual(len(pool), 200 - many)
            for _ in range(many):
                pool.redo()
            self.assertEqual(told_of(pool), state)
            self.refused(pool, Nothing(), pool.redo)
            self.refused(pool, TooMany(200), pool.call, 'ab')

    def test_copies(self):
        pool, states = self.pool_of_all_deeds()
        pool.undo()
        pool.undo()
        copy = pool.copied()
        self.assertIs(type(copy), Pool)
        self.assertEqual(told_of(copy), told_of(pool))
        copy.redo()
        self.assertEqual([told_of(copy), told_of(pool)], [states[5], states[4]])
        pool.redo()
        pool.redo()
        self.assertEqual([told_of(copy), told_of(pool)], [states[5], states[6]])
        copy.call('ab')
        self.refused(copy, Nothing(), copy.redo)
        self.assertEqual(told_of(pool), states[6])
        pool.undo()
        self.assertEqual(len(copy), 6)
        other = copy.copied().copied()
        other.undo()
        self.assertEqual([len(other), len(copy)], [5, 6])


class TestQueries(PoolCase):
    def test_crews_of_desks_that_the_pool_does_not_have(self):
        pool = Pool(first(), ABC)
        for name in ('no', 'ann', 'a'):
            self.raises(NoDesk(name), pool.crew, name)
        pool.retire('cid')
        self.assertEqual(pool.crew('c'), [])

    def test_answers_belong_to_the_caller(self):
        pool = Pool(first(), ABC)
        pool.call('bc')
        pool.hire('dan', ['c'])
        pool.retire('cid')
        before = told_of(pool)
        for query in (pool.log, pool.servers, pool.line, pool.desks, pool.keepers, pool.live, lambda: pool.crew('ab')):
            for _ in range(2):
                found = query()
                self.assertIs(type(found), list)
                spoil(found)
                self.assertEqual(told_of(pool), before)
        pool.roster().workers().clear()
        self.assertEqual(told_of(pool), before)

    def test_without_desks(self):
        pool = Pool(Roster(['b', 'a'], []), ['b', 'a'])
        self.assertEqual([pool.desks(), pool.keepers(), pool.live(), pool.line()], [[], [], [], ['b', 'a']])
        self.refused(pool, NoDesk('x'), pool.call, 'x')
        self.refused(pool, NoDesk('x'), pool.hire, 'c', ['x'])
        pool.hire('c', [])
        self.assertTrue(pool.roster() == Roster(['a', 'b', 'c'], []))

    def test_two_pools_by_turns(self):
        one, other = Pool(first(), ABC), Pool(first(), ABC[::-1])
        apart = [(Pool(first(), ABC), Model(first(), ABC)), (Pool(ring(), ['x', 'y', 'z']), Model(ring(), ['x', 'y', 'z']))]
        one.call('bc')
        other.retire('ann')
        self.assertEqual([one.line(), other.line()], [['bob', 'ann', 'cid'], ['cid', 'bob']])
        for desk in ('ab', 'xy', 'c', 'z', 'bc', 'zx'):
            for pool, model in apart:
                self.assertEqual(outcome(pool.call, desk), outcome(model.call, desk))
            for pool, model in apart:
                self.assertEqual(told_of(pool), model.answers())

    def test_lines_of_small_rosters(self):
        for roster in small_rosters()[::3]:
            for line in lines_of(roster)[::2]:
                pool, model = Pool(roster, line), Model(roster, line)
                for desk in roster.desks() * 2:
                    self.assertEqual(pool.call(desk), model.call(desk))
                    self.assertEqual(told_of(pool), model.answers())


if __name__ == '__main__':
    unittest.main()
