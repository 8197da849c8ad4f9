"""Tests of [97]."""

import re
import unittest
from random import Random

from deskkeepers.comparing import depth
from deskkeepers.console import Console
from deskkeepers.errors import (Closed, DeskError, Known, NoCommand, NoDesk, NoOwn, NoWorker, Nothing, NotLean, NotLive, Stopped,
                                TooMany, Wrong)
from deskkeepers.notation import show_deeds
from deskkeepers.reaching import reach
from deskkeepers.rosters import Roster
from deskkeepers.settling import ends, lose, settle
from modelpool import Model
from plain import Case, outcome
from samples import Odd, first, mixed_rosters, names, nested, odd_values, ring, wide
from test_notation import changed_by_a_sign, changed_by_parts

ABC = ['ann', 'bob', 'cid']
NAME = '[a-z]{1,8}'
NAMES = f'(-|{NAME}(?: {NAME})*)'
DEED = f'(call {NAME}|retire {NAME}|hire {NAME} {NAMES})'
QUERIES = ['line', 'live', 'keepers', 'log', 'ends']


def written(names_written):
    """The names that NAMES write."""
    return [] if names_written == '-' else names_written.split(' ')


def shown(names_shown):
    """Names as NAMES."""
    return ' '.join(names_shown) or '-'


def deed_of(text):
    """The deed that a text writes, or None."""
    if not re.fullmatch(DEED, text):
        return None
    words = text.split(' ')
    if words[0] != 'hire':
        return tuple(words)
    desks = written(' '.join(words[2:]))
    return ('hire', words[1], desks) if len(set(desks)) == len(desks) else None


def plain_execute(model, line):
    """What [97] says of a line, for a model of the pool."""
    if type(line) is not str:
        raise NoCommand()
    deed = deed_of(line)
    if deed:
        return model.do(*deed) or 'ok'
    late = re.fullmatch('late (0|[1-9][0-9]{0,39}) (.*)', line)
    if late and deed_of(late[2]):
        if int(late[1]) > len(model.deeds):
            raise Wrong(0)
        model.late(int(late[1]), deed_of(late[2]))
        return 'ok'
    if line in ('undo', 'redo'):
        getattr(model, line)()
        return 'ok'
    told = model.answers()
    roster = told['roster'] and Roster(*told['roster'])
    if line in ('line', 'live'):
        return shown(told[line])
    if line == 'keepers':
        return shown([desk + ':' + worker for desk, worker in told['keepers']])
    if line == 'log':
        return '; '.join(show_deeds(told['log']).split('\n')) or '-'
    if line == 'ends':
        return '; '.join(','.join(members) or '-' for members in ends(roster, told['line'])) if roster else '-'
    return plain_question(told, roster, line)


def plain_question(told, roster, line):
    """What [97] says of a line that asks about workers or desks."""
    one, some = re.fullmatch(f'(depth|lose) ({NAME})', line), re.fullmatch(f'settle {NAMES}', line)
    wishes = re.fullmatch(f'reach ({NAME}:{NAME}(?: {NAME}:{NAME})*)', line)
    if one:
        unknown([one[2]], told)
        if one[1] == 'depth':
            found = depth(roster, told['line'], one[2])
            return '-' if found is None else str(found)
        kind, found = lose(roster, told['line'], one[2])
        return kind + ' ' + (found if kind == 'safe' else shown(found))
    if some and len(set(written(some[1]))) == len(written(some[1])):
        unknown(written(some[1]), told)
        return shown(settle(roster, told['line'], written(some[1]))) if roster else '-'
    if wishes:
        wanted = [tuple(wish.split(':')) for wish in wishes[1].split(' ')]
        if len(dict(wanted)) == len(wanted):
            crews = dict(told['roster'][1]) if roster else {}
            for desk, worker in wanted:
                if desk not in crews:
                    raise NoDesk(desk)
                if worker not in crews[desk]:
                    raise NoWorker(worker)
            kind, found = reach(roster, told['line'], wanted)
            return kind + ' ' + shown(found)
    raise NoCommand()


def unknown(workers, told):
    """Raise NoWorker for the first that the pool does not have."""
    for worker in workers:
        if worker not in told['line']:
            raise NoWorker(worker)


class Told:
    """A console and a model of its pool, which answer the same to each line."""

    def __init__(self, case, roster, line):
        self.case = case
        self.console = Console(roster, line)
        self.model = Model(roster, line)

    def tell(self, line):
        """Tell both the line, and ask both for their state."""
        found = outcome(self.console.execute, line)
        self.case.assertEqual(found, outcome(plain_execute, self.model, line), repr(line)[:200])
        for query in QUERIES:
            self.case.assertEqual(outcome(self.console.execute, query), outcome(plain_execute, self.model, query))
        return found


class TestConsole(Case):
    def tells(self, console, *pairs):
        """The console answers each line as told, or raises the error."""
        for line, wanted in pairs:
            if isinstance(wanted, DeskError):
                before = [outcome(console.execute, query) for query in QUERIES]
                self.raises(wanted, console.execute, line)
                self.assertEqual([outcome(console.execute, query) for query in QUERIES], before)
            else:
                found = console.execute(line)
                self.assertIs(type(found), str)
                self.assertEqual(found, wanted, line)

    def test_wrong_arguments(self):
        for value in odd_values() + ['ann', ABC]:
            if not isinstance(value, Roster):
                self.raises(Wrong(0), Console, value, ABC)
                self.raises(Wrong(0), Console, value, value)
            if value != ABC or type(value) is not list:
                self.raises(Wrong(1), Console, first(), value)
        for line in (['ann', 'bob'], [*ABC, 'dan'], ['ann', 'bob', 'bob'], tuple(ABC)):
            self.raises(Wrong(1), Console, first(), line)

    def test_every_command(self):
        console = Console(first(), ABC)
        self.tells(console, ('line', 'ann bob cid'), ('live', 'ann bob cid'), ('keepers', 'ab:ann bc:bob c:cid'), ('log', '-'), ('ends', 'ann,cid; bob,cid'),
                   ('depth ann', '0'), ('settle ann cid', 'c'), ('settle cid ann', 'c'), ('settle cid bob', 'bc'), ('lose bob', 'calls c'), ('lose cid', 'safe c'),
                   ('reach ab:bob', NoOwn('bob')), ('reach ab:bob bc:cid', NoOwn('bob')), ('reach ab:ann', 'calls -'), ('reach bc:cid ab:ann', 'calls c'),
                   ('call bc', 'bob'), ('line', 'bob ann cid'), ('hire dan ab c', 'ok'), ('line', 'bob ann cid dan'), ('depth dan', '1'),
                   ('depth ann', '1'), ('live', 'bob cid'), ('lose bob', 'safe ab'), ('lose ann', NotLive('ann')), ('settle bob cid', '-'),
                   ('retire bob', 'ok'), ('log', 'call bc; hire dan ab c; retire bob'), ('keepers', 'ab:ann bc:cid c:cid'), ('depth dan', '1'),
                   ('late 0 call c', 'ok'), ('log', 'call c; call bc; hire dan ab c; retire bob'), ('line', 'cid ann dan'), ('undo', 'ok'),
                   ('log', 'call c; call bc; hire dan ab c'), ('line', 'cid ann bob dan'), ('redo', 'ok'), ('line', 'cid ann dan'), ('redo', Nothing()),
                   ('hire eve -', 'ok'), ('depth eve', '-'), ('lose eve', NotLive('eve')), ('log', 'call c; call bc; hire dan ab c; retire bob; hire eve -'))

    def test_cycles(self):
        console = Console(ring(), ['x', 'y', 'z'])
        self.tells(console, ('reach xy:y yz:z', 'calls y z'), ('reach yz:z xy:y', 'calls y z'), ('call xy', 'x'))
        found = console.execute('reach xy:x yz:y zx:z').split(' ')
        self.assertEqual([found[0], sorted(found[1:])], ['cycle', ['x', 'y', 'z']])

    def test_errors_of_deeds(self):
        console = Console(first(), ABC)
        self.tells(console, ('call no', NoDesk('no')), ('call ann', NoDesk('ann')), ('retire no', NoWorker('no')), ('hire ann no', Known('ann')),
                   ('hire dan ab no never', NoDesk('no')), ('undo', Nothing()), ('redo', Nothing()), ('retire cid', 'ok'), ('call c', Closed('c')),
                   ('retire cid', NoWorker('cid')), ('late 0 call no', Stopped(0)), ('late 1 call c', Stopped(1)), ('late 0 retire cid', Stopped(1)),
                   ('late 2 call ab', Wrong(0)), ('late 1 call ab', 'ok'), ('undo', 'ok'), ('hire cid c', 'ok'), ('call c', 'cid'))
        console = Console(wide(), names(40))
        self.tells(console, ('hire new -', TooMany(40)), ('hire waa no', Known('waa')), ('hire new no', NoDesk('no')), ('late 0 hire new -', Stopped(0)))

    def test_two_hundred_deeds(self):
        console = Console(first(), ABC)
        for at in range(200):
            console.execute('call ' + ('ab', 'bc')[at % 2])
        self.tells(console, ('call ab', TooMany(200)), ('call no', NoDesk('no')), ('retire ann', TooMany(200)), ('hire dan -', TooMany(200)),
                   ('hire ann -', Known('ann')), ('late 0 call no', TooMany(200)), ('late 200 call ab', TooMany(200)), ('late 201 call ab', Wrong(0)),
                   ('late 201 call A', NoCommand()), ('undo', 'ok'), ('late 0 call no', Stopped(0)), ('late 0 call ab', 'ok'), ('redo', Nothing()))
        self.assertEqual(console.execute('log'), '; '.join(['call ab', *['call ab', 'call bc'] * 100][:200]))

    def test_refused_lines_change_nothing_that_can_be_redone(self):
        console = Console(first(), ABC)
        self.tells(console, ('call c', 'cid'), ('hire dan ab', 'ok'), ('undo', 'ok'), ('undo', 'ok'))
        for line in ('call no', 'retire dan', 'hire ann -', 'hire dan no', 'late 0 call no', 'late 1 call c', 'undo', 'call', 'nothing', '', 'hire dan ab ab',
                     'late 0 hire dan ab ab', 'settle ann', 'settle no', 'lose no', 'depth no', 'reach no:ann', 'reach ab:cid', 'reach ab:ann ab:ann'):
            self.assertRaises(DeskError, console.execute, line)
            for query in (*QUERIES, 'depth bob', 'settle ann cid', 'lose cid', 'reach bc:cid'):
                console.execute(query)
        for value in odd_values():
            self.raises(NoCommand(), console.execute, value)
        self.tells(console, ('redo', 'ok'), ('redo', 'ok'), ('redo', Nothing()), ('log', 'call c; hire dan ab'))

    def test_values_that_are_no_line(self):
        console = Console(first(), ABC)
        console.execute('call c')
        values = odd_values() + [b'line', ['line'], ('line',), {'line': 1}, nested(20), Odd(), Console, 1, 'x' * 40000, 'a ' * 20000, 'call ' * 9000]
        for value in values:
            self.tells(console, (value, NoCommand()))
        for line in ('', ' ', '\n', '-', 'a', 'Line', 'LINE', 'line ', ' line', 'line line', 'line -', 'lines', 'line\n', '\nline', 'live ', 'live ann', 'keepers ',
                     'keepers ab', 'log ', 'log 0', 'ends ', 'ends -', 'undo ', 'undo 1', 'undo undo', 'redo ', 'redo redo', 'undone', 'call', 'call ', 'call  ab',
                     ' call ab', 'call ab ', 'call ab bc', 'call Ab', 'call -', 'call a1', 'call abcdefghi', 'call ab\n', 'call\nab', 'retire', 'retire -', 'retire ann bob',
                     'retire ann ', 'hire', 'hire dan', 'hire dan ', 'hire - -', 'hire dan ab -', 'hire dan - ab', 'hire dan - -', 'hire dan  ab', 'hire dan ab  bc',
                     'hire dan ab,bc', 'hire dan ab ab', 'hire dan no no', 'hire ann ab ab', 'hire dan AB', 'late', 'late 0', 'late 0 ', 'late call ab', 'late 0 ab',
                     'late 0 undo', 'late 0 redo', 'late 0 late 0 call ab', 'late 0 line', 'late 0  call ab', 'late  0 call ab', 'late 0 call ab ', 'late 0 call',
                     'late 0 hire dan', 'late 0 hire dan ab ab', 'late 9 hire dan ab ab', 'late 0 hire dan - ab', 'late -1 call ab', 'late +1 call ab', 'late 00 call ab',
                     'late 01 call ab', 'late 1.0 call ab', 'late 1_0 call ab', 'late a call ab', 'late - call ab', 'late 0 0 call ab', 'late 0x0 call ab', 'late  call ab',
                     'depth', 'depth ', 'depth -', 'depth ann bob', 'depth  ann', 'depth ann ', 'depth Ann', 'lose', 'lose -', 'lose ann bob', 'settle', 'settle ',
                     'settle ann ann', 'settle no no', 'settle ann -', 'settle - ann', 'settle - -', 'settle ann  bob', 'settle ann,bob', 'settle ann bob ann', 'reach',
                     'reach ', 'reach -', 'reach ab', 'reach ab:', 'reach :ann', 'reach :', 'reach ab:ann:bob', 'reach ab:ann ab:bob', 'reach ab:ann ab:ann', 'reach ab: ann',
                     'reach ab :ann', 'reach ab:ann ', 'reach  ab:ann', 'reach ab:ann  bc:bob', 'reach ab:ann -', 'reach ab:ann,bc:bob', 'reach AB:ann', 'reach ab:Ann',
                     'reach no:ann no:ann', 'reach ab:-', 'crew ab', 'desks', 'servers', 'roster', 'copied', 'help', 'find ab:ann', 'line; live', 'line\nlive'):
            self.tells(console, (line, NoCommand()))
        self.tells(console, ('log', 'call c'), ('undo', 'ok'))

    def test_numbers(self):
        console = Console(first(), ABC)
        console.execute('call c')
        self.tells(console, ('late 2 call ab', Wrong(0)), ('late ' + '9' * 40 + ' call ab', Wrong(0)), ('late 1' + '0' * 39 + ' call ab', Wrong(0)),
                   ('late ' + '9' * 41 + ' call ab', NoCommand()), ('late 1' + '0' * 40 + ' call ab', NoCommand()), ('late ' + '0' * 40 + ' call ab', NoCommand()),
                   ('late 0' + '1' * 39 + ' call ab', NoCommand()), ('late ' + '9' * 4000 + ' call ab', NoCommand()), ('late ' + '9' * 5000 + ' call ab', NoCommand()),
                   ('late ' + '9' * 40 + ' call A', NoCommand()), ('late 1 call bc', 'ok'), ('late 0 retire bob', 'ok'),
                   ('log', 'retire bob; call c; call bc'))
        for at in range(4, 12):
            console.execute(f'late {at - 1} call c')
        self.tells(console, ('late 10 call ab', 'ok'), ('late 12 call ab', 'ok'), ('late 14 call ab', Wrong(0)), ('late 011 call ab', NoCommand()))

    def test_a_pool_without_workers(self):
        console = Console(first(), ABC)
        for worker in ABC:
            console.execute('retire ' + worker)
        self.tells(console, ('line', '-'), ('live', '-'), ('keepers', '-'), ('ends', '-'), ('settle -', '-'), ('settle ann', NoWorker('ann')), ('depth ann', NoWorker('ann')),
                   ('lose ann', NoWorker('ann')), ('reach ab:ann', NoDesk('ab')), ('reach no:ann', NoDesk('no')), ('call ab', Closed('ab')), ('settle - -', NoCommand()),
                   ('hire zoe -', 'ok'), ('line', 'zoe'), ('live', '-'), ('keepers', '-'), ('ends', '-'), ('settle -', '-'), ('settle zoe', NotLean()), ('depth zoe', '-'),
                   ('lose zoe', NotLive('zoe')), ('reach ab:zoe', NoDesk('ab')), ('hire yan ab', 'ok'), ('ends', 'yan'), ('settle -', NotLean()), ('settle yan', '-'),
                   ('reach ab:zoe', NoWorker('zoe')), ('reach ab:yan', 'calls -'), ('lose yan', 'safe ab'))

    def test_closed_desks_and_no_desks(self):
        console = Console(first(), ABC)
        self.tells(console, ('retire cid', 'ok'), ('keepers', 'ab:ann bc:bob'), ('ends', 'bob'), ('settle bob', 'bc'), ('lose ann', 'calls bc'), ('reach c:cid', NoDesk('c')),
                   ('reach c:ann', NoDesk('c')), ('reach ab:bob', 'calls bc'), ('reach ab:bob c:no', NoDesk('c')), ('reach ab:cid c:no', NoWorker('cid')))
        console = Console(Roster(['b', 'a'], []), ['b', 'a'])
        self.tells(console, ('line', 'b a'), ('live', '-'), ('keepers', '-'), ('ends', '-'), ('settle -', '-'), ('settle a', NotLean()), ('settle a no', NoWorker('no')),
                   ('depth a', '-'), ('lose b', NotLive('b')), ('reach x:a', NoDesk('x')), ('call x', NoDesk('x')))

    def test_names_that_are_not_in_the_pool(self):
        console = Console(first(), ABC)
        self.tells(console, ('depth dan', NoWorker('dan')), ('depth ab', NoWorker('ab')), ('lose dan', NoWorker('dan')), ('settle dan', NoWorker('dan')),
                   ('settle ann dan eve', NoWorker('dan')), ('settle eve dan ann', NoWorker('eve')), ('settle ann bob', NotLean()), ('settle -', NotLean()),
                   ('reach no:dan', NoDesk('no')), ('reach ab:dan', NoWorker('dan')), ('reach ab:cid', NoWorker('cid')), ('reach ab:dan no:ann', NoWorker('dan')),
                   ('reach no:ann ab:dan', NoDesk('no')), ('reach bc:cid ab:cid', NoWorker('cid')), ('reach ab:bob bc:no', NoWorker('no')))

    def test_errors_of_the_functions_come_last(self):
        console = Console(first(), ['bob', 'ann', 'cid'])
        self.tells(console, ('settle ann cid', NotLive('ann')), ('lose ann', NotLive('ann')), ('reach ab:ann', NotLive('ann')), ('reach ab:ann bc:cid', NotLive('ann')),
                   ('reach ab:ann bc:no', NoWorker('no')), ('reach ab:ann no:cid', NoDesk('no')))

    def test_thirteen_live_workers_and_members(self):
        ones, others = names(13, 'v'), names(13)
        desks = [('o' + one, [one]) for one in ones] + [('s' + other, [one, other]) for one, other in zip(ones, others)]
        roster = Roster(ones + others, desks)
        console = Console(roster, others + ones)
        self.tells(console, ('ends', TooMany(12)), ('settle ' + ' '.join(ones), TooMany(12)), ('settle ' + ' '.join(ones[1:]), NotLean()),
                   ('settle ' + ' '.join([*ones, 'no']), NoWorker('no')), ('lose waa', TooMany(12)), ('lose vaa', 'safe ovaa'))
        for name in others[1:]:
            console.execute('retire ' + name)
        self.tells(console, ('ends', TooMany(12)), ('lose waa', TooMany(12)), ('live', ' '.join([*ones, 'waa'])), ('retire vam', 'ok'), ('retire val', 'ok'),
                   ('ends', ','.join(ones[:11])), ('lose waa', 'calls ovaa'), ('settle ' + ' '.join(ones[:11]), 'ovaa'))

    def test_random_lines(self):
        found = set()
        for seed in range(50):
            chance = Random(seed)
            roster = [first(), ring(), Roster(['a'], [('x', ['a']), ('y', ['a'])]), *mixed_rosters(2, 4, 4)][seed % 5]
            told = Told(self, roster, roster.workers())
            workers, desks = roster.workers() + ['new'], roster.desks() + ['no'][:seed % 2]
            for _ in range(50):
                line = self.random_line(chance, workers, desks)
                answer = told.tell(line)
                found.add(line.split(' ')[0] + ' ' + (answer[0] if isinstance(answer, tuple) else 'answer'))
        for word in ('call', 'retire', 'hire', 'late', 'undo', 'redo', 'depth', 'lose', 'settle', 'reach'):
            self.assertIn(word + ' answer', found)
        for wanted in ('call Closed', 'call NoDesk', 'retire NoWorker', 'hire Known', 'hire NoCommand', 'late Stopped', 'late Wrong', 'undo Nothing', 'redo Nothing',
                       'depth NoWorker', 'lose NotLive', 'settle NotLean', 'settle NotLive', 'settle NoCommand', 'reach NoWorker', 'reach NoDesk', 'reach NotLive',
                       'reach NoOwn', 'reach NoCommand'):
            self.assertIn(wanted, found)

    def random_line(self, chance, workers, desks):
        """A line of each kind, now and then with names that are twice or unknown."""
        some = [chance.choice(desks) for _ in range(chance.randrange(3))]
        deed = chance.choice([f'call {chance.choice(desks)}', f'retire {chance.choice(workers)}', f'hire {chance.choice(workers)} {shown(some)}'])
        wishes = ' '.join(f'{chance.choice(desks)}:{chance.choice(workers)}' for _ in range(chance.randint(1, 2)))
        team = chance.choice([chance.sample(workers, chance.randrange(len(workers))), [chance.choice(workers) for _ in range(2)]])
        return chance.choice([deed, deed, deed, f'late {chance.randrange(9)} {deed}', 'undo', 'redo', f'depth {chance.choice(workers)}', f'lose {chance.choice(workers)}',
                              f'settle {shown(team)}', f'reach {wishes}', f'reach {wishes}'])

    def test_lines_that_are_like_right_ones(self):
        told = Told(self, first(), ABC)
        for line in ('call bc', 'hire dan ab c', 'late 0 call c'):
            told.tell(line)
        found = set()
        for line in ('line', 'call ab', 'hire eve c ab', 'late 1 hire eve c', 'reach ab:bob bc:bob', 'settle cid bob', 'lose bob', 'depth dan', 'undo', 'ends'):
            others = ['', '-', 'a', 'ab', 'c', 'ann', 'A', '0', '1', '01', 'ab:ann', 'late', 'hire', 'abcdefghi']
            for text in changed_by_parts(line.split(' '), ' ', others) + changed_by_a_sign(line)[::3]:
                copy = outcome(told.console.execute, text)
                self.assertEqual(copy, outcome(plain_execute, told.model, text), text)
                found.add(type(copy).__name__)
                while len(told.model.deeds) > 6:
                    self.assertEqual(told.tell('undo'), 'ok')
        self.assertEqual(found, {'str', 'tuple'})

    def test_two_consoles_by_turns(self):
        one, other = Told(self, first(), ABC), Told(self, ring(), ['z', 'y', 'x'])
        for line in ('call bc', 'call xy', 'ends', 'retire x', 'retire ann', 'undo', 'undo', 'redo', 'keepers', 'hire x ab', 'hire ann xy', 'log', 'late 0 call c', 'reach xy:y'):
            one.tell(line)
            other.tell(line)


if __name__ == '__main__':
    unittest.main()
