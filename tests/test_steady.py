"""Tests of [3] and [4] over all functions together: answers do not depend on what was asked before."""

import unittest
from copy import deepcopy

from deskkeepers import costs, counting, covers, lines, logs, orders, reaching, search, settling
from deskkeepers.errors import DeskError
from deskkeepers.rosters import Roster
from plain import spoil
from samples import first, names, paired, ring, wide

ABC, CBA = ['ann', 'bob', 'cid'], ['cid', 'bob', 'ann']
XYZ, ZYX = ['x', 'y', 'z'], ['z', 'y', 'x']
EVERYONE = Roster(names(40), [('d' + name, [name]) for name in names(40)])
CYCLIC = [('xy', 'x'), ('yz', 'y'), ('zx', 'z')]
PRICES = [('ab', 1), ('bc', 5), ('c', 2)]
OTHERS = [('x', 4), ('xy', 1), ('y', 2), ('yz', 3), ('z', 5), ('zx', 6)]
ONE = [('ab', 'ann'), ('bc', 'cid'), ('c', 'cid')]
LOG, BAD = [('ab', 'ann'), ('bc', 'cid')], [('ab', 'ann'), ('bc', 'cid'), ('ab', 'bob')]

ASKED = [
    (lines.is_line, first(), ABC), (lines.is_line, ring(), ABC), (lines.keepers, first(), CBA), (lines.keepers, ring(), XYZ),
    (lines.serve, first(), ABC, 'bc'), (lines.serve, ring(), ZYX, 'xy'), (lines.follow, first(), ABC, ['bc', 'c']),
    (lines.follow, ring(), XYZ, ['z', 'zx']), (lines.masters, first(), ABC), (lines.masters, ring(), XYZ),
    (lines.taken, first(), [('ab', 'bob'), ('bc', 'cid'), ('c', 'cid')], 'ab'),
    (orders.arrange, first(), [('bc', 'cid')]), (orders.arrange, ring(), CYCLIC), (orders.arrangements, first()),
    (orders.arrangements, ring()), (orders.is_cycle, ring(), CYCLIC, XYZ), (orders.is_cycle, ring(), CYCLIC[1:], XYZ),
    (covers.live, first(), ABC), (covers.live, ring(), XYZ), (covers.is_cover, first(), ABC), (covers.is_lean, first(), ABC),
    (covers.own_desks, first(), ABC, 'cid'), (covers.own_desks, ring(), XYZ, 'x'), (covers.lean_covers, first(), CBA),
    (covers.lean_covers, ring(), XYZ), (settling.ends, first(), ABC), (settling.ends, ring(), ZYX),
    (settling.is_settled, first(), ABC), (settling.is_settled, ring(), XYZ), (settling.settle, first(), ABC, ['cid', 'bob']),
    (settling.lose, first(), ABC, 'bob'), (settling.lose, first(), ABC, 'cid'), (settling.lose, ring(), XYZ, 'z'),
    (reaching.must_call, first(), ABC, [('bc', 'cid')]), (reaching.must_call, ring(), XYZ, [('yz', 'z'), ('zx', 'x')]),
    (reaching.is_must_call, first(), ABC, [('bc', 'cid')], [('cid', 'bc', None)]), (reaching.reach, ring(), XYZ, CYCLIC),
    (reaching.reach, first(), ABC, [('bc', 'cid')]), (reaching.reach, ring(), ZYX, [('xy', 'x')]),
    (search.find, first(), ABC, [('ab', 'bob')]), (search.find, first(), ['cid', 'ann', 'bob'], [('ab', 'bob')]),
    (search.find, ring(), XYZ, CYCLIC), (search.find, ring(), XYZ, CYCLIC[1:]), (search.is_never, ring(), XYZ, CYCLIC, []),
    (search.is_never, first(), ['cid', 'ann', 'bob'], [('ab', 'bob')], [ONE]), (search.is_never, first(), ABC, [], [ONE]),
    (costs.price_table, first(), ABC, [('bc', 'cid')], PRICES), (costs.price_table, ring(), XYZ, CYCLIC, OTHERS),
    (costs.price_table, first(), ABC, [('ab', 'bob')], PRICES), (costs.cheapest, first(), ABC, [('bc', 'cid')], PRICES),
    (costs.cheapest, ring(), XYZ, CYCLIC[1:], OTHERS), (costs.cheapest, ring(), XYZ, CYCLIC, OTHERS),
    (costs.is_price_table, first(), ['cid', 'ann', 'bob'], [('ab', 'bob')], PRICES, [(ONE, None)]),
    (costs.is_price_table, first(), ['cid', 'ann', 'bob'], [('ab', 'ann')], PRICES, [(ONE, None)]),
    (logs.first_bad, first(), LOG), (logs.first_bad, first(), BAD), (logs.facts, first(), LOG),
    (logs.facts, ring(), [('xy', 'y')]), (logs.servers, first(), LOG, 'c'), (logs.servers, first(), LOG[1:], 'ab'),
    (counting.line_many, first(), LOG), (counting.line_many, ring(), []), (counting.line_of, first(), LOG, 1),
    (counting.line_of, ring(), [], 4), (counting.line_number, first(), LOG, ABC), (counting.line_number, ring(), [], ZYX),
]
REFUSED = [
    (lines.serve, first(), ABC, 'no'), (lines.follow, first(), ABC, ['bc', 'no']), (orders.arrangements, wide()),
    (covers.lean_covers, wide(), names(13)), (settling.ends, EVERYONE, names(40)), (settling.settle, first(), ABC, ABC),
    (settling.settle, first(), ['ann', 'cid', 'bob'], ['cid', 'bob']), (settling.settle, EVERYONE, names(40), names(40)),
    (settling.lose, first(), ['ann', 'cid', 'bob'], 'bob'), (reaching.must_call, first(), ['ann', 'cid', 'bob'], [('ab', 'bob')]),
    (reaching.is_must_call, first(), ['ann', 'cid', 'bob'], [('ab', 'bob')], []),
    (reaching.reach, first(), ['ann', 'cid', 'bob'], [('bc', 'bob')]), (reaching.reach, first(), ABC, [('ab', 'bob'), ('bc', 'bob')]),
    (search.find, paired(9), paired(9).workers(), [('zz', 'zb')]), (logs.facts, first(), BAD), (logs.servers, first(), BAD, 'c'),
    (costs.price_table, paired(9), paired(9).workers(), [], [(desk, 1) for desk in paired(9).desks()]),
    (costs.cheapest, paired(9), paired(9).workers(), [], [(desk, 1) for desk in paired(9).desks()]),
    (counting.line_many, first(), BAD), (counting.line_of, first(), BAD, 0), (counting.line_number, first(), BAD, ABC),
    (counting.line_many, wide(), []), (counting.line_of, wide(), [], 0), (counting.line_number, wide(), [], names(40)),
    (counting.line_of, first(), LOG, 2),
]


def answer(function, *arguments):
    """What the function returns, or the error that it raises with its fields."""
    try:
        return function(*arguments)
    except DeskError as error:
        return type(error), vars(error)


class TestSteady(unittest.TestCase):
    def test_answers_in_any_order_and_after_errors(self):
        given = deepcopy(ASKED + REFUSED)
        answers = [deepcopy(answer(*call)) for call in given]
        for call in REFUSED:
            self.assertIn(DeskError, answer(*call)[0].__bases__)
        for step in (-1, 5, 7, 1):
            for at in range(len(given)):
                at = at * step % len(given)
                found = answer(*given[at])
                self.assertEqual(found, answers[at], given[at])
                spoil(found)
        self.assertEqual(given, ASKED + REFUSED)


if __name__ == '__main__':
    unittest.main()
