"""Tests of [3] and [4] over all functions together: answers do not depend on what was asked before."""

import unittest
from copy import deepcopy

from deskkeepers import (badges, comparing, costs, counting, covers, lines, logs, notation, orders, reaching, rows, scripts, search,
                         settling, sightings)
from deskkeepers.console import Console
from deskkeepers.errors import DeskError
from deskkeepers.pools import Pool
from deskkeepers.rosters import Roster
from plain import spoil
from samples import first, names, paired, ring, wide

ABC, CBA = ['ann', 'bob', 'cid'], ['cid', 'bob', 'ann']
XYZ, ZYX = ['x', 'y', 'z'], ['z', 'y', 'x']
EVERYONE = Roster(names(40), [('d' + name, [name]) for name in names(40)])
CYCLIC = [('xy', 'x'), ('yz', 'y'), ('zx', 'z')]
PRICES = [('ab', 1), ('bc', 5), ('c', 2)]
OTHERS = [('x', 4), ('xy', 1), ('y', 2), ('yz', 3), ('z', 5), ('zx', 6)]
ONE = [('ab', 'ann'), ('bc', 'cid'), ('c', 'cid')]
RED = [('ann', 'red'), ('bob', 'red'), ('cid', 'red')]
BOTH = [(ONE, ONE)]
FEWEST = (['ann', 'cid'], ['ab', 'c'])
SEEN = [('bc', ['bob', 'cid']), ('ab', ['ann'])]
TURNING = ['xy', 'x', 'yz', 'y', 'zx', 'xy', 'z']
DEEDS = [('call', 'ab'), ('hire', 'dan', ['c', 'ab']), ('retire', 'ann')]
LOG, BAD = [('ab', 'ann'), ('bc', 'cid')], [('ab', 'ann'), ('bc', 'cid'), ('ab', 'bob')]

ASKED = [
    (lines.is_line, first(), ABC), (lines.is_line, ring(), ABC), (lines.keepers, first(), CBA), (lines.keepers, ring(), XYZ),
    (lines.serve, first(), ABC, 'bc'), (lines.serve, ring(), ZYX, 'xy'), (lines.follow, first(), ABC, ['bc', 'c']),
    (lines.follow, ring(), XYZ, ['z', 'zx']), (lines.masters, first(), ABC), (lines.masters, ring(), XYZ),
    (lines.taken, first(), [('ab', 'bob'), ('bc', 'cid'), ('c', 'cid')], 'ab'),
    (orders.arrange, first(), [('bc', 'cid')]), (orders.arrange, ring(), CYCLIC), (orders.arrangements, first()),
    (orders.arrangements, ring()), (orders.is_cycle, ring(), CYCLIC, XYZ), (orders.is_cycle, ring(), CYCLIC[1:], XYZ),
    (covers.live, first(), ABC), (covers.live, ring(), XYZ), (covers.is_cover, first(), ABC), (covers.is_lean, first(), ABC),
    (covers.own_desks, first(), ABC, 'cid'), (covers.own_desks, ring(), XYZ, 'x'), (covers.lean_covers, first(), CBA),
    (covers.lean_covers, ring(), XYZ), (settling.ends, first(), ABC), (settling.ends, ring(), ZYX),
    (settling.is_settled, first(), ABC), (settling.is_settled, ring(), XYZ), (settling.settle, first(), ABC, ['cid', 'bob']),
    (settling.lose, first(), ABC, 'bob'), (settling.lose, first(), ABC, 'cid'), (settling.lose, ring(), XYZ, 'z'),
    (reaching.must_call, first(), ABC, [('bc', 'cid')]), (reaching.must_call, ring(), XYZ, [('yz', 'z'), ('zx', 'x')]),
    (reaching.is_must_call, first(), ABC, [('bc', 'cid')], [('cid', 'bc', None)]), (reaching.reach, ring(), XYZ, CYCLIC),
    (reaching.reach, first(), ABC, [('bc', 'cid')]), (reaching.reach, ring(), ZYX, [('xy', 'x')]),
    (search.find, first(), ABC, [('ab', 'bob')]), (search.find, first(), ['cid', 'ann', 'bob'], [('ab', 'bob')]),
    (search.find, ring(), XYZ, CYCLIC), (search.find, ring(), XYZ, CYCLIC[1:]), (search.is_never, ring(), XYZ, CYCLIC, []),
    (search.is_never, first(), ['cid', 'ann', 'bob'], [('ab', 'bob')], [ONE]), (search.is_never, first(), ABC, [], [ONE]),
    (costs.price_table, first(), ABC, [('bc', 'cid')], PRICES), (costs.price_table, ring(), XYZ, CYCLIC, OTHERS),
    (costs.price_table, first(), ABC, [('ab', 'bob')], PRICES), (costs.cheapest, first(), ABC, [('bc', 'cid')], PRICES),
    (costs.cheapest, ring(), XYZ, CYCLIC[1:], OTHERS), (costs.cheapest, ring(), XYZ, CYCLIC, OTHERS),
    (costs.is_price_table, first(), ['cid', 'ann', 'bob'], [('ab', 'bob')], PRICES, [(ONE, None)]),
    (costs.is_price_table, first(), ['cid', 'ann', 'bob'], [('ab', 'ann')], PRICES, [(ONE, None)]),
    (logs.first_bad, first(), LOG), (logs.first_bad, first(), BAD), (logs.facts, first(), LOG),
    (logs.facts, ring(), [('xy', 'y')]), (logs.servers, first(), LOG, 'c'), (logs.servers, first(), LOG[1:], 'ab'),
    (counting.line_many, first(), LOG), (counting.line_many, ring(), []), (counting.line_of, first(), LOG, 1),
    (counting.line_of, ring(), [], 4), (counting.line_number, first(), LOG, ABC), (counting.line_number, ring(), [], ZYX),
    (sightings.histories, first(), SEEN), (sightings.histories, ring(), [('xy', ['y', 'x'])]), (sightings.histories, first(), []),
    (sightings.starts_many, first(), SEEN), (sightings.starts_many, ring(), [('xy', ['y'])]),
    (comparing.heads, first(), ABC, 2), (comparing.heads, ring(), ZYX, 1), (comparing.compare, first(), ABC, CBA, 0),
    (comparing.compare, first(), ['ann', 'cid', 'bob'], ['cid', 'ann', 'bob'], 5), (comparing.compare, ring(), XYZ, ZYX, 2),
    (comparing.depth, first(), ['ann', 'cid', 'bob'], 'bob'), (comparing.nearest, first(), ['ann', 'cid', 'bob'], 'bob'),
    (comparing.nearest, ring(), XYZ, 'z'), (comparing.depth, Roster(['a', 'b'], []), ['a', 'b'], 'a'),
    (badges.compare_badges, first(), ABC, RED, first(), CBA, RED), (badges.compare_badges, first(), ABC, RED, first(), CBA, [*RED[:2], ('cid', 'c')]),
    (badges.is_agreement, first(), CBA, RED, first(), CBA, RED, BOTH), (badges.is_agreement, first(), ABC, RED, first(), CBA, RED, BOTH),
    (scripts.period, ring(), ['z', 'x', 'y'], TURNING), (scripts.period, first(), ABC, ['bc', 'c']), (scripts.after, ring(), ['z', 'x', 'y'], TURNING, 10 ** 30),
    (scripts.after, first(), ABC, ['bc', 'c'], 1), (scripts.survivors, ring(), XYZ, TURNING), (scripts.survivors, first(), ABC, ['bc', 'c']),
    (scripts.is_period, ring(), ['z', 'x', 'y'], TURNING, (0, 2)), (scripts.is_period, first(), ABC, [], (0, 2)),
    (rows.fewest_cover, first(), ABC, ABC), (rows.fewest_cover, first(), CBA, ['cid', 'ann']), (rows.is_fewest_cover, first(), ABC, ABC, FEWEST),
    (rows.is_fewest_cover, first(), ABC, ['cid'], FEWEST), (rows.settle_row, first(), CBA, ABC, ['cid', 'bob']), (rows.lean_many, first(), ABC, ABC),
    (rows.lean_of, first(), ABC, ABC, 1), (rows.lean_number, first(), ABC, ABC, ['cid', 'bob']), (rows.lean_number, first(), ABC, ABC, ['bob']),
    (rows.largest_lean, first(), ABC, ABC), (rows.largest_lean, Roster(['a', 'b'], []), ['b', 'a'], ['a', 'b']),
    (notation.show_roster, first()), (notation.show_roster, ring()), (notation.show_deeds, DEEDS), (notation.show_deeds, []),
    (notation.read_roster, 'workers a b\ndesk x a b'), (notation.read_deeds, 'call ab\nhire dan c ab\nretire ann'), (notation.read_deeds, ''),
]
REFUSED = [
    (lines.serve, first(), ABC, 'no'), (lines.follow, first(), ABC, ['bc', 'no']), (orders.arrangements, wide()),
    (covers.lean_covers, wide(), names(13)), (settling.ends, EVERYONE, names(40)), (settling.settle, first(), ABC, ABC),
    (settling.settle, first(), ['ann', 'cid', 'bob'], ['cid', 'bob']), (settling.settle, EVERYONE, names(40), names(40)),
    (settling.lose, first(), ['ann', 'cid', 'bob'], 'bob'), (reaching.must_call, first(), ['ann', 'cid', 'bob'], [('ab', 'bob')]),
    (reaching.is_must_call, first(), ['ann', 'cid', 'bob'], [('ab', 'bob')], []),
    (reaching.reach, first(), ['ann', 'cid', 'bob'], [('bc', 'bob')]), (reaching.reach, first(), ABC, [('ab', 'bob'), ('bc', 'bob')]),
    (search.find, paired(9), paired(9).workers(), [('zz', 'zb')]), (logs.facts, first(), BAD), (logs.servers, first(), BAD, 'c'),
    (costs.price_table, paired(9), paired(9).workers(), [], [(desk, 1) for desk in paired(9).desks()]),
    (costs.cheapest, paired(9), paired(9).workers(), [], [(desk, 1) for desk in paired(9).desks()]),
    (counting.line_many, first(), BAD), (counting.line_of, first(), BAD, 0), (counting.line_number, first(), BAD, ABC),
    (counting.line_many, wide(), []), (counting.line_of, wide(), [], 0), (counting.line_number, wide(), [], names(40)),
    (counting.line_of, first(), LOG, 2), (sightings.histories, wide(), [('dac', wide().crew('dac'))] + [(desk, wide().crew(desk)) for desk in wide().desks()[:39]]),
    (sightings.starts_many, wide(), []), (badges.compare_badges, first(), ABC, RED, ring(), XYZ, RED),
    (badges.is_agreement, first(), ABC, RED, ring(), XYZ, RED, BOTH), (rows.fewest_cover, first(), ['ann', 'cid', 'bob'], ABC),
    (rows.fewest_cover, first(), ABC, ['bob']), (rows.is_fewest_cover, first(), ['ann', 'cid', 'bob'], ABC, FEWEST), (rows.settle_row, first(), ABC, ABC, ABC),
    (rows.settle_row, first(), ABC, ['ann', 'cid', 'bob'], ['cid', 'bob']), (rows.lean_many, first(), ABC, []), (rows.lean_of, first(), ABC, ABC, 2),
    (rows.lean_number, first(), ABC, ['ann'], ['ann']), (rows.largest_lean, first(), ['ann', 'cid', 'bob'], ABC), (notation.read_roster, 'workers'),
    (notation.read_roster, 'workers b a'), (notation.read_deeds, 'call'), (notation.read_deeds, None), (Pool, first(), XYZ), (Pool, ABC, ABC), (Console, first(), CBA[1:]),
]


def answer(function, *arguments):
    """What the function returns, or the error that it raises with its fields."""
    try:
        return function(*arguments)
    except DeskError as error:
        return type(error), vars(error)


class TestSteady(unittest.TestCase):
    def test_answers_in_any_order_and_after_errors(self):
        given = deepcopy(ASKED + REFUSED)
        answers = [deepcopy(answer(*call)) for call in given]
        for call in REFUSED:
            self.assertIn(DeskError, answer(*call)[0].__bases__)
        for step in (-1, 5, 7, 1):
            for at in range(len(given)):
                at = at * step % len(given)
                found = answer(*given[at])
                self.assertEqual(found, answers[at], given[at])
                spoil(found)
        self.assertEqual(given, ASKED + REFUSED)


if __name__ == '__main__':
    unittest.main()
