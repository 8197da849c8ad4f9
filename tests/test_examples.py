"""The examples of DOC.md, as they stand there, and that of README.md."""

import unittest
from pathlib import Path

from deskkeepers.errors import DeskError

EXAMPLES = {
    '20': """\
>>> from deskkeepers.errors import TooMany
>>> TooMany(7).limit
7
""",
    '21': """\
>>> from deskkeepers.kinds import are_names
>>> [are_names([]), are_names(['ab', 'a']), are_names(['a', 'a'])]
[True, True, False]
""",
    '22 queries': """\
>>> from deskkeepers.rosters import Roster
>>> roster = Roster(['bob', 'ann', 'cid'], [('bc', ['bob', 'cid']), ('ab', ['bob', 'ann']), ('c', ['cid'])])
>>> [roster.desks(), roster.crew('ab'), roster.desks_of('cid'), roster.cut(['ann']).desks(), len(roster)]
[['ab', 'bc', 'c'], ['ann', 'bob'], ['bc', 'c'], ['ab'], 3]
""",
    '22 error': """\
>>> from deskkeepers.rosters import Roster
>>> Roster(['ann', 'bob'], [('ab', ['ann', 'bob']), ('a', [])])
raises BadDesk(1)
""",
    '31': """\
>>> from deskkeepers.rosters import Roster
>>> from deskkeepers.lines import keepers
>>> R = Roster(['ann', 'bob', 'cid'], [('ab', ['ann', 'bob']), ('bc', ['bob', 'cid']), ('c', ['cid'])])
>>> keepers(R, ['ann', 'bob', 'cid'])
[('ab', 'ann'), ('bc', 'bob'), ('c', 'cid')]
""",
    '32': """\
>>> from deskkeepers.rosters import Roster
>>> from deskkeepers.lines import serve
>>> R = Roster(['ann', 'bob', 'cid'], [('ab', ['ann', 'bob']), ('bc', ['bob', 'cid']), ('c', ['cid'])])
>>> serve(R, ['ann', 'bob', 'cid'], 'bc')
('bob', ['bob', 'ann', 'cid'])
""",
    '33': """\
>>> from deskkeepers.rosters import Roster
>>> from deskkeepers.lines import follow
>>> R = Roster(['ann', 'bob', 'cid'], [('ab', ['ann', 'bob']), ('bc', ['bob', 'cid']), ('c', ['cid'])])
>>> follow(R, ['ann', 'bob', 'cid'], ['bc', 'c', 'ab'])
(['bob', 'cid', 'bob'], ['bob', 'cid', 'ann'])
""",
    '35': """\
>>> from deskkeepers.rosters import Roster
>>> from deskkeepers.lines import masters, taken
>>> R = Roster(['ann', 'bob', 'cid'], [('ab', ['ann', 'bob']), ('bc', ['bob', 'cid']), ('c', ['cid'])])
>>> [masters(R, ['ann', 'bob', 'cid']), taken(R, [('ab', 'ann'), ('bc', 'bob'), ('c', 'cid')], 'bc')]
[['ann'], ('bob', [('ab', 'bob'), ('bc', 'bob'), ('c', 'cid')])]
""",
    '36': """\
>>> from deskkeepers.rosters import Roster
>>> from deskkeepers.orders import arrange, is_cycle
>>> R = Roster(['ann', 'bob', 'cid'], [('ab', ['ann', 'bob']), ('bc', ['bob', 'cid']), ('c', ['cid'])])
>>> two = Roster(['ann', 'bob'], [('x', ['ann', 'bob']), ('y', ['ann', 'bob'])])
>>> [arrange(R, [('ab', 'bob'), ('bc', 'cid')]), is_cycle(two, [('x', 'ann'), ('y', 'bob')], ['bob', 'ann'])]
[('line', ['cid', 'bob', 'ann']), True]
""",
    '37': """\
>>> from deskkeepers.rosters import Roster
>>> from deskkeepers.orders import arrangements
>>> arrangements(Roster(['ann', 'bob', 'cid'], [('ab', ['ann', 'bob']), ('bc', ['bob', 'cid']), ('c', ['cid'])]))
4
""",
    '41': """\
>>> from deskkeepers.rosters import Roster
>>> from deskkeepers.covers import is_cover, is_lean, own_desks
>>> R = Roster(['ann', 'bob', 'cid'], [('ab', ['ann', 'bob']), ('bc', ['bob', 'cid']), ('c', ['cid'])])
>>> [is_cover(R, ['cid', 'bob', 'ann']), is_lean(R, ['cid', 'bob', 'ann']), own_desks(R, ['ann', 'cid'], 'cid')]
[True, False, ['bc', 'c']]
""",
    '42': """\
>>> from deskkeepers.rosters import Roster
>>> from deskkeepers.covers import lean_covers
>>> R = Roster(['ann', 'bob', 'cid'], [('ab', ['ann', 'bob']), ('bc', ['bob', 'cid']), ('c', ['cid'])])
>>> lean_covers(R, ['ann', 'bob', 'cid'])
[['ann', 'cid'], ['bob', 'cid']]
""",
    '44': """\
>>> from deskkeepers.rosters import Roster
>>> from deskkeepers.settling import ends, settle
>>> R = Roster(['ann', 'bob', 'cid'], [('ab', ['ann', 'bob']), ('bc', ['bob', 'cid']), ('c', ['cid'])])
>>> [ends(R, ['ann', 'bob', 'cid']), settle(R, ['ann', 'bob', 'cid'], ['ann', 'cid'])]
[[['ann', 'cid'], ['bob', 'cid']], ['c']]
""",
    '45': """\
>>> from deskkeepers.rosters import Roster
>>> from deskkeepers.settling import lose
>>> R = Roster(['ann', 'bob', 'cid'], [('ab', ['ann', 'bob']), ('bc', ['bob', 'cid']), ('c', ['cid'])])
>>> [lose(R, ['ann', 'bob', 'cid'], 'bob'), lose(R, ['ann', 'bob', 'cid'], 'cid')]
[('calls', ['c']), ('safe', 'c')]
""",
    '50': """\
>>> from deskkeepers.rosters import Roster
>>> from deskkeepers.reaching import is_must_call
>>> R = Roster(['ann', 'bob', 'cid'], [('ab', ['ann', 'bob']), ('bc', ['bob', 'cid']), ('c', ['cid'])])
>>> wishes = [('ab', 'ann'), ('bc', 'cid')]
>>> [is_must_call(R, ['ann', 'bob', 'cid'], wishes, [('cid', 'bc', None)]), is_must_call(R, ['ann', 'bob', 'cid'], wishes, [])]
[True, False]
""",
    '51': """\
>>> from deskkeepers.rosters import Roster
>>> from deskkeepers.reaching import reach
>>> desks = [('x', ['x']), ('xy', ['x', 'y']), ('y', ['y']), ('yz', ['y', 'z']), ('z', ['z']), ('zx', ['x', 'z'])]
>>> reach(Roster(['x', 'y', 'z'], desks), ['x', 'y', 'z'], [('xy', 'y'), ('yz', 'z')])
('calls', ['y', 'z'])
""",
    '52': """\
>>> from deskkeepers.rosters import Roster
>>> from deskkeepers.search import find
>>> R = Roster(['ann', 'bob', 'cid'], [('ab', ['ann', 'bob']), ('bc', ['bob', 'cid']), ('c', ['cid'])])
>>> [find(R, ['ann', 'bob', 'cid'], [('ab', 'bob')]), find(R, ['cid', 'ann', 'bob'], [('ab', 'bob')])]
[('calls', ['bc']), ('never', [[('ab', 'ann'), ('bc', 'cid'), ('c', 'cid')]])]
""",
    '55': """\
>>> from deskkeepers.rosters import Roster
>>> from deskkeepers.costs import cheapest
>>> R = Roster(['ann', 'bob', 'cid'], [('ab', ['ann', 'bob']), ('bc', ['bob', 'cid']), ('c', ['cid'])])
>>> cheapest(R, ['ann', 'bob', 'cid'], [('bc', 'cid')], [('ab', 1), ('bc', 5), ('c', 2)])
('calls', 2, ['c'])
""",
    '60': """\
>>> from deskkeepers.rosters import Roster
>>> from deskkeepers.logs import first_bad
>>> R = Roster(['ann', 'bob', 'cid'], [('ab', ['ann', 'bob']), ('bc', ['bob', 'cid']), ('c', ['cid'])])
>>> first_bad(R, [('ab', 'ann'), ('bc', 'cid'), ('ab', 'bob')])
2
""",
    '62': """\
>>> from deskkeepers.rosters import Roster
>>> from deskkeepers.logs import facts, servers
>>> R = Roster(['ann', 'bob', 'cid'], [('ab', ['ann', 'bob']), ('bc', ['bob', 'cid']), ('c', ['cid'])])
>>> [facts(R, [('ab', 'ann'), ('bc', 'cid')]), servers(R, [('c', 'cid')], 'ab'), servers(R, [('bc', 'bob')], 'ab')]
[[('ann', 'bob'), ('cid', 'bob')], ['ann', 'bob'], ['bob']]
""",
    '63': """\
>>> from deskkeepers.rosters import Roster
>>> from deskkeepers.counting import line_many, line_number, line_of
>>> R = Roster(['ann', 'bob', 'cid'], [('ab', ['ann', 'bob']), ('bc', ['bob', 'cid']), ('c', ['cid'])])
>>> log = [('ab', 'ann'), ('bc', 'cid')]
>>> [line_many(R, log), line_of(R, log, 1), line_number(R, log, ['ann', 'bob', 'cid'])]
[2, ['cid', 'ann', 'bob'], None]
""",
    '65': """\
>>> from deskkeepers.rosters import Roster
>>> from deskkeepers.sightings import histories, starts_many
>>> R = Roster(['ann', 'bob', 'cid'], [('ab', ['ann', 'bob']), ('bc', ['bob', 'cid']), ('c', ['cid'])])
>>> [histories(R, [('bc', ['bob', 'cid']), ('ab', ['ann'])]), starts_many(R, [('bc', ['bob', 'cid']), ('ab', ['ann'])])]
[[['cid', 'ann']], 2]
""",
    '71': """\
>>> from deskkeepers.rosters import Roster
>>> from deskkeepers.comparing import compare, heads
>>> one = Roster(['ann', 'bob', 'cid'], [('all', ['ann', 'bob', 'cid'])])
>>> [heads(one, ['bob', 'ann', 'cid'], 2), compare(one, ['ann', 'bob', 'cid'], ['ann', 'cid', 'bob'], 0)]
[[('all', ['bob', 'ann'])], ('alike',)]
>>> compare(one, ['ann', 'bob', 'cid'], ['ann', 'cid', 'bob'], 5)
('apart', ['ann'], 'all')
""",
    '73': """\
>>> from deskkeepers.rosters import Roster
>>> from deskkeepers.comparing import depth, nearest
>>> R = Roster(['ann', 'bob', 'cid'], [('ab', ['ann', 'bob']), ('bc', ['bob', 'cid']), ('c', ['cid'])])
>>> [depth(R, ['ann', 'cid', 'bob'], 'bob'), nearest(R, ['ann', 'cid', 'bob'], 'bob')]
[1, (['ann'], 'ab')]
""",
    '75': """\
>>> from deskkeepers.rosters import Roster
>>> from deskkeepers.badges import compare_badges
>>> one = Roster(['ann', 'bob'], [('x', ['ann', 'bob']), ('y', ['bob'])])
>>> other = Roster(['cid'], [('x', ['cid']), ('y', ['cid'])])
>>> compare_badges(one, ['ann', 'bob'], [('ann', 'red'), ('bob', 'red')], other, ['cid'], [('cid', 'red')])
('alike', [([('x', 'ann'), ('y', 'bob')], [('x', 'cid'), ('y', 'cid')]), ([('x', 'bob'), ('y', 'bob')], [('x', 'cid'), ('y', 'cid')])])
""",
    '83': """\
>>> from deskkeepers.rosters import Roster
>>> from deskkeepers.scripts import after, period
>>> desks = [('x', ['x']), ('xy', ['x', 'y']), ('y', ['y']), ('yz', ['y', 'z']), ('z', ['z']), ('zx', ['x', 'z'])]
>>> roster = Roster(['x', 'y', 'z'], desks)
>>> script = ['xy', 'x', 'yz', 'y', 'zx', 'xy', 'z']
>>> [period(roster, ['z', 'x', 'y'], script), after(roster, ['z', 'x', 'y'], script, 10 ** 30 - 1)]
[(0, 2), ['z', 'y', 'x']]
""",
    '85': """\
>>> from deskkeepers.rosters import Roster
>>> from deskkeepers.rows import fewest_cover
>>> four = Roster(['a', 'b', 'c', 'd'], [('ab', ['a', 'b']), ('bc', ['b', 'c']), ('cd', ['c', 'd'])])
>>> fewest_cover(four, ['a', 'b', 'c', 'd'], ['b', 'c'])
(['b', 'c'], ['ab', 'cd'])
""",
    '87': """\
>>> from deskkeepers.rosters import Roster
>>> from deskkeepers.rows import lean_many, lean_of
>>> four = Roster(['a', 'b', 'c', 'd'], [('ab', ['a', 'b']), ('bc', ['b', 'c']), ('cd', ['c', 'd'])])
>>> [lean_many(four, ['a', 'b', 'c', 'd'], ['a', 'b', 'c', 'd']), lean_of(four, ['a', 'b', 'c', 'd'], ['a', 'b', 'c', 'd'], 0)]
[3, ['a', 'c']]
""",
    '88': """\
>>> from deskkeepers.rosters import Roster
>>> from deskkeepers.rows import largest_lean
>>> three = Roster(['a', 'b', 'c'], [('ab', ['a', 'b']), ('bc', ['b', 'c'])])
>>> largest_lean(three, ['a', 'b', 'c'], ['a', 'b', 'c'])
(['a', 'c'], [(None, 'a', 2), (None, 'b', 1), ('a', 'b', 1), ('a', 'c', 1), ('b', 'c', None)])
""",
    '91': """\
>>> from deskkeepers.rosters import Roster
>>> from deskkeepers.pools import Pool
>>> R = Roster(['ann', 'bob', 'cid'], [('ab', ['ann', 'bob']), ('bc', ['bob', 'cid']), ('c', ['cid'])])
>>> pool = Pool(R, ['ann', 'bob', 'cid'])
>>> server = pool.call('bc')
>>> pool.hire('dan', ['ab', 'c'])
>>> pool.retire('cid')
>>> pool.late(0, ('call', 'c'))
>>> [pool.servers(), pool.line(), pool.keepers(), len(pool)]
[['cid', 'cid'], ['ann', 'bob', 'dan'], [('ab', 'ann'), ('bc', 'bob'), ('c', 'dan')], 4]
""",
    '96': """\
>>> from deskkeepers.rosters import Roster
>>> from deskkeepers.notation import show_deeds, show_roster
>>> show_roster(Roster(['bob', 'ann'], [('ab', ['bob', 'ann'])]))
'workers ann bob\\ndesk ab ann bob'
>>> show_deeds([('call', 'ab'), ('hire', 'cid', [])])
'call ab\\nhire cid -'
""",
    '97': """\
>>> from deskkeepers.rosters import Roster
>>> from deskkeepers.console import Console
>>> R = Roster(['ann', 'bob', 'cid'], [('ab', ['ann', 'bob']), ('bc', ['bob', 'cid']), ('c', ['cid'])])
>>> console = Console(R, ['ann', 'bob', 'cid'])
>>> [console.execute('keepers'), console.execute('ends'), console.execute('call bc'), console.execute('line')]
['ab:ann bc:bob c:cid', 'ann,cid; bob,cid', 'bob', 'bob ann cid']
""",
}


def shown(command, names):
    """What the document shows below a command: its value, or the error that it raises."""
    try:
        return repr(eval(command, names))
    except DeskError as error:
        fields = ', '.join(repr(value) for value in vars(error).values())
        return 'raises ' + type(error).__name__ + '(' + fields + ')'


def run(text):
    """Run an example; return the pairs of what was shown and what should be."""
    names = {}
    pairs = []
    rows = text.splitlines()
    for row, after in zip(rows, rows[1:] + ['>>> ']):
        if not row.startswith('>>> '):
            continue
        if after.startswith('>>> '):
            exec(row[4:], names)
        else:
            pairs.append((shown(row[4:], names), after))
    return pairs


class TestExamples(unittest.TestCase):
    def test_examples(self):
        for point, text in EXAMPLES.items():
            with self.subTest(point):
                pairs = run(text)
                self.assertNotEqual(pairs, [])
                for found, wanted in pairs:
                    self.assertEqual(found, wanted)

    def test_the_example_of_the_readme(self):
        text = (Path(__file__).resolve().parent.parent / 'README.md').read_text().split('```')[1]
        pairs = run(text.strip())
        self.assertEqual(len(pairs), 7)
        for found, wanted in pairs:
            self.assertEqual(found, wanted)


if __name__ == '__main__':
    unittest.main()
