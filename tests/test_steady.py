"""Tests of [3] and [4] over all functions together: answers do not depend on what was asked before."""

import unittest
from copy import deepcopy

from deskkeepers import covers, lines, orders, reaching, settling
from deskkeepers.errors import DeskError
from deskkeepers.rosters import Roster
from plain import spoil
from samples import first, names, ring, wide

ABC, CBA = ['ann', 'bob', 'cid'], ['cid', 'bob', 'ann']
XYZ, ZYX = ['x', 'y', 'z'], ['z', 'y', 'x']
EVERYONE = Roster(names(40), [('d' + name, [name]) for name in names(40)])
CYCLIC = [('xy', 'x'), ('yz', 'y'), ('zx', 'z')]

ASKED = [
    (lines.is_line, first(), ABC), (lines.is_line, ring(), ABC), (lines.keepers, first(), CBA), (lines.keepers, ring(), XYZ),
    (lines.serve, first(), ABC, 'bc'), (lines.serve, ring(), ZYX, 'xy'), (lines.follow, first(), ABC, ['bc', 'c']),
    (lines.follow, ring(), XYZ, ['z', 'zx']), (lines.masters, first(), ABC), (lines.masters, ring(), XYZ),
    (lines.taken, first(), [('ab', 'bob'), ('bc', 'cid'), ('c', 'cid')], 'ab'),
    (orders.arrange, first(), [('bc', 'cid')]), (orders.arrange, ring(), CYCLIC), (orders.arrangements, first()),
    (orders.arrangements, ring()), (orders.is_cycle, ring(), CYCLIC, XYZ), (orders.is_cycle, ring(), CYCLIC[1:], XYZ),
    (covers.live, first(), ABC), (covers.live, ring(), XYZ), (covers.is_cover, first(), ABC), (covers.is_lean, first(), ABC),
    (covers.own_desks, first(), ABC, 'cid'), (covers.own_desks, ring(), XYZ, 'x'), (covers.lean_covers, first(), CBA),
    (covers.lean_covers, ring(), XYZ), (settling.ends, first(), ABC), (settling.ends, ring(), ZYX),
    (settling.is_settled, first(), ABC), (settling.is_settled, ring(), XYZ), (settling.settle, first(), ABC, ['cid', 'bob']),
    (settling.lose, first(), ABC, 'bob'), (settling.lose, first(), ABC, 'cid'), (settling.lose, ring(), XYZ, 'z'),
    (reaching.must_call, first(), ABC, [('bc', 'cid')]), (reaching.must_call, ring(), XYZ, [('yz', 'z'), ('zx', 'x')]),
    (reaching.is_must_call, first(), ABC, [('bc', 'cid')], [('cid', 'bc', None)]), (reaching.reach, ring(), XYZ, CYCLIC),
    (reaching.reach, first(), ABC, [('bc', 'cid')]), (reaching.reach, ring(), ZYX, [('xy', 'x')]),
]
REFUSED = [
    (lines.serve, first(), ABC, 'no'), (lines.follow, first(), ABC, ['bc', 'no']), (orders.arrangements, wide()),
    (covers.lean_covers, wide(), names(13)), (settling.ends, EVERYONE, names(40)), (settling.settle, first(), ABC, ABC),
    (settling.settle, first(), ['ann', 'cid', 'bob'], ['cid', 'bob']), (settling.settle, EVERYONE, names(40), names(40)),
    (settling.lose, first(), ['ann', 'cid', 'bob'], 'bob'), (reaching.must_call, first(), ['ann', 'cid', 'bob'], [('ab', 'bob')]),
    (reaching.is_must_call, first(), ['ann', 'cid', 'bob'], [('ab', 'bob')], []),
    (reaching.reach, first(), ['ann', 'cid', 'bob'], [('bc', 'bob')]), (reaching.reach, first(), ABC, [('ab', 'bob'), ('bc', 'bob')]),
]


def answer(function, *arguments):
    """What the function returns, or the error that it raises with its fields."""
    try:
        return function(*arguments)
    except DeskError as error:
        return type(error), vars(error)


class TestSteady(unittest.TestCase):
    def test_answers_in_any_order_and_after_errors(self):
        given = deepcopy(ASKED + REFUSED)
        answers = [deepcopy(answer(*call)) for call in given]
        for call in REFUSED:
            self.assertIn(DeskError, answer(*call)[0].__bases__)
        for step in (-1, 5, 7, 1):
            for at in range(len(given)):
                at = at * step % len(given)
                found = answer(*given[at])
                self.assertEqual(found, answers[at], given[at])
                spoil(found)
        self.assertEqual(given, ASKED + REFUSED)


if __name__ == '__main__':
    unittest.main()
