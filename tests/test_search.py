"""Tests of [52] and [53]."""

import unittest
from itertools import permutations, product

from deskkeepers.errors import TooMany
from deskkeepers.rosters import Roster
from deskkeepers.search import find, is_never
from plain import Case, keepers_lists, meets, plain_follow, plain_keepers, plain_taken, subsets, wishes_of
from samples import Odd, first, lines_of, mixed_rosters, names, nested, odd_values, paired, ring, small_rosters


def plain_find(roster, line, wishes, limit):
    """The search as [52] tells it, over plain lists; None if it meets too many nodes."""
    start = plain_keepers(roster, line)
    met, ways = [start], [[]]
    if meets(start, wishes):
        return 'calls', []
    for node, way in zip(met, ways):
        for desk in roster.desks():
            after = plain_taken(roster, node, desk)
            if after not in met:
                met.append(after)
                ways.append([*way, desk])
                if meets(after, wishes):
                    return 'calls', ways[-1]
                if len(met) > limit:
                    return None
    return 'never', met


def first_of_the_shortest(roster, line, wishes, longest):
    """The first of the shortest lists of calls that lead to the wishes, all lists gone through; or None."""
    for many in range(longest + 1):
        for calls in product(roster.desks(), repeat=many):
            if meets(plain_keepers(roster, plain_follow(roster, line, calls)), wishes):
                return list(calls)
    return None


def is_plain_never(roster, line, wishes, thing):
    """What [53] asks of a list of keepers lists."""
    return plain_keepers(roster, line) in thing and all(
        not meets(given, wishes) and all(plain_taken(roster, given, desk) in thing for desk in roster.desks())
        for given in thing)


def some_cases():
    """Rosters of three to five workers, with lines and wishes."""
    for roster in [first(), ring(), paired(2), *small_rosters(), *mixed_rosters(4, 4, 5), *mixed_rosters(2, 5, 6)]:
        lines = lines_of(roster)
        for line in lines[::1 + len(lines) // 6]:
            wishes = wishes_of(roster)
            for wanted in wishes[::1 + len(wishes) // 30]:
                yield roster, line, wanted


class TestFind(Case):
    def test_as_the_document_tells_it(self):
        kinds = set()
        for roster, line, wishes in some_cases():
            found = self.steady(find, roster, line, wishes)
            self.assertIs(type(found), tuple)
            self.assertEqual(found, plain_find(roster, line, wishes, 400))
            self.assertEqual(find(roster, line, wishes[::-1]), found)
            kinds.add(found[0])
        self.assertEqual(kinds, {'calls', 'never'})

    def test_all_limits(self):
        kinds = set()
        for roster, line, wishes in some_cases():
            for limit in (1, 2, 3, 4, 5, 6, 7, 8, 9, 10, 15, 30, 1000):
                wanted = plain_find(roster, line, wishes, limit)
                if wanted is None:
                    self.raises(TooMany(limit), find, roster, line, wishes, limit=limit)
                    kinds.add('error')
                else:
                    self.assertEqual(find(roster, line, wishes, limit=limit), wanted)
                    kinds.add(wanted[0])
        self.assertEqual(kinds, {'calls', 'never', 'error'})

    def test_the_first_of_the_shortest_calls(self):
        for roster in [first(), ring(), *small_rosters(), *mixed_rosters(2, 4, 4)]:
            lines = lines_of(roster)
            for line in lines[::1 + len(lines) // 6]:
                for wishes in wishes_of(roster)[::1 if len(roster) < 4 else 17]:
                    kind, found = find(roster, line, wishes)
                    wanted = first_of_the_shortest(roster, line, wishes, 3)
                    if wanted is not None:
                        self.assertEqual((kind, found), ('calls', wanted))
                    else:
                        self.assertTrue(kind == 'never' or len(found) > 3)

    def test_the_line_meets_the_wishes_already(self):
        for limit in (1, 2, 400):
            self.assertEqual(find(first(), ['ann', 'bob', 'cid'], [('ab', 'ann'), ('c', 'cid')], limit=limit), ('calls', []))
            self.assertEqual(find(first(), ['ann', 'bob', 'cid'], [], limit=limit), ('calls', []))
            self.assertEqual(find(Roster(['a', 'b'], []), ['b', 'a'], [], limit=limit), ('calls', []))

    def test_wishes_that_no_keepers_list_meets(self):
        wishes = [('xy', 'x'), ('yz', 'y'), ('zx', 'z')]
        kind, table = self.steady(find, ring(), ['x', 'y', 'z'], wishes)
        self.assertEqual(kind, 'never')
        self.assertEqual(len(table), 6)
        self.assertEqual(table[0], [('x', 'x'), ('xy', 'x'), ('y', 'y'), ('yz', 'y'), ('z', 'z'), ('zx', 'x')])
        self.assertEqual(table, plain_find(ring(), ['x', 'y', 'z'], wishes, 400)[1])
        self.assertEqual(find(ring(), ['x', 'y', 'z'], wishes, limit=6), ('never', table))
        self.raises(TooMany(5), find, ring(), ['x', 'y', 'z'], wishes, limit=5)

    def test_one_node(self):
        roster = Roster(['a', 'b'], [('x', ['a', 'b'])])
        self.assertEqual(find(roster, ['a', 'b'], [('x', 'b')], limit=1), ('never', [[('x', 'a')]]))
        self.raises(TooMany(1), find, ring(), ['x', 'y', 'z'], [('xy', 'x'), ('yz', 'y'), ('zx', 'z')], limit=1)

    def test_wishes_met_by_the_node_beyond_the_limit(self):
        # The calls y and z lead to new nodes, in this order.
        line = ['x', 'y', 'z']
        self.assertEqual(find(ring(), line, [('xy', 'y')], limit=1), ('calls', ['y']))
        self.raises(TooMany(1), find, ring(), line, [('yz', 'z')], limit=1)
        self.assertEqual(find(ring(), line, [('yz', 'z')], limit=2), ('calls', ['z']))
        self.raises(TooMany(2), find, ring(), line, [('xy', 'y'), ('zx', 'z')], limit=2)

    def test_more_than_four_hundred_nodes(self):
        roster, line = paired(9), paired(9).workers()
        self.assertEqual(len(roster), 28)
        never = [('zz', 'zb')]
        self.raises(TooMany(400), find, roster, line, never)
        self.raises(TooMany(400), find, roster, line, never, limit=400)
        self.raises(TooMany(511), find, roster, line, never, limit=511)
        kind, table = find(roster, line, never, limit=512)
        self.assertEqual([kind, len(table), len({tuple(given) for given in table})], ['never', 512, 512])
        self.assertEqual(find(roster, line, never, limit=1000), (kind, table))
        self.assertIs(is_never(roster, line, never, table), True)
        wishes = [('s' + name, name) for name in names(9)]
        self.raises(TooMany(400), find, roster, line, wishes)
        self.raises(TooMany(510), find, roster, line, wishes, limit=510)
        self.assertEqual(find(roster, line, wishes, limit=511), ('calls', ['o' + name for name in names(9)]))
        self.assertEqual(find(paired(8), paired(8).workers(), [('zz', 'zb')])[0], 'never')

    def test_a_great_roster(self):
        roster, line = paired(18), paired(18).workers()
        self.assertEqual([len(roster), len(line)], [55, 38])
        self.raises(TooMany(1000), find, roster, line, [('zz', 'zb')], limit=1000)
        self.assertEqual(self.steady(find, roster, line, [('swap', 'wap'), ('swab', 'wab')]), ('calls', ['owab', 'owap']))

    def test_by_turns(self):
        self.by_turns(find, [(first(), ['ann', 'bob', 'cid'], [('ab', 'bob')]), (first(), ['cid', 'ann', 'bob'], [('ab', 'bob')]),
                             (ring(), ['x', 'y', 'z'], [('xy', 'y')]), (first(), ['ann', 'bob', 'cid'], [('bc', 'cid')])])


class TestIsNever(Case):
    def test_all_sets_of_keepers_lists(self):
        found = set()
        two = Roster(['a', 'b', 'c'], [('x', ['a', 'b']), ('y', ['b', 'c']), ('z', ['a', 'b'])])
        for roster in (first(), two, Roster(['a', 'b'], [('x', ['a', 'b']), ('y', ['a'])])):
            for line in lines_of(roster):
                for wishes in wishes_of(roster):
                    for thing in subsets(keepers_lists(roster)):
                        wanted = is_plain_never(roster, line, wishes, thing)
                        self.assertIs(is_never(roster, line, wishes, thing), wanted)
                        found.add(wanted)
        self.assertEqual(found, {True, False})

    def test_tables_that_are_found(self):
        many = 0
        for roster, line, wishes in some_cases():
            kind, table = find(roster, line, wishes)
            if kind == 'calls':
                for thing in ([], [plain_keepers(roster, line)], keepers_lists(roster)):
                    self.assertIs(is_never(roster, line, wishes, thing), False)
                continue
            self.assertIs(self.steady(is_never, roster, line, wishes, table), True)
            self.assertIs(is_never(roster, line, wishes[::-1], table[::-1]), True)
            self.assertIs(is_never(roster, line, wishes, table + table[::2]), True)
            for at in range(len(table)):
                self.assertIs(is_never(roster, line, wishes, table[:at] + table[at + 1:]), False)
            self.assertIs(is_never(roster, line, [], table), False)
            more = [given for given in keepers_lists(roster) if given not in table]
            for given in more[::1 + len(more) // 6]:
                wanted = is_plain_never(roster, line, wishes, table + [given])
                self.assertIs(is_never(roster, line, wishes, table + [given]), wanted)
                self.assertIs(is_never(roster, line, wishes, [given] + table), wanted)
            every = [given for given in table + more if not meets(given, wishes)]
            self.assertIs(is_never(roster, line, wishes, every), is_plain_never(roster, line, wishes, every))
            many += 1
        self.assertGreater(many, 100)

    def cyclic(self):
        wishes = [('xy', 'x'), ('yz', 'y'), ('zx', 'z')]
        return wishes, find(ring(), ['x', 'y', 'z'], wishes)[1]

    def test_any_order_twice_and_beyond(self):
        wishes, table = self.cyclic()
        for order in list(permutations(table))[::7]:
            self.assertIs(is_never(ring(), ['x', 'y', 'z'], wishes, list(order)), True)
            self.assertIs(is_never(ring(), ['z', 'y', 'x'], wishes, list(order) * 2), True)
        self.assertIs(is_never(ring(), ['y', 'x', 'z'], wishes, table * 100), True)
        given = [('x', 'x'), ('xy', 'y'), ('y', 'y'), ('yz', 'z'), ('z', 'z'), ('zx', 'x')]
        self.assertNotIn(given, table)
        self.assertIs(is_never(ring(), ['x', 'y', 'z'], wishes, [given, *table]), True)
        self.assertIs(is_never(ring(), ['x', 'y', 'z'], wishes, table + [given] * 3), True)
        meeting = [('x', 'x'), ('xy', 'x'), ('y', 'y'), ('yz', 'y'), ('z', 'z'), ('zx', 'z')]
        self.assertIs(is_never(ring(), ['x', 'y', 'z'], wishes, table + [meeting]), False)
        self.assertIs(is_never(ring(), ['x', 'y', 'z'], [*wishes, ('x', 'x')], table), True)
        self.assertIs(is_never(ring(), ['x', 'y', 'z'], wishes[:2], table), False)

    def test_changed_members(self):
        wishes, table = self.cyclic()
        self.assertIs(is_never(ring(), ['x', 'y', 'z'], wishes, table), True)
        for at, given in enumerate(table):
            for place, (desk, worker) in enumerate(given):
                before, after = given[:place], given[place + 1:]
                for changed in ([*before, *after], [*given, given[place]], [given[place], *given],
                                [*before, given[place], *given[place:]], [*after, *before, given[place]][:6],
                                [*before, *after, given[place]], [given[place], *before, *after],
                                [*before, (desk, 'no'), *after], [*before, ('no', worker), *after],
                                [*before, (worker, desk), *after], [*before, [desk, worker], *after],
                                [*before, (desk,), *after], [*before, (desk, worker, None), *after],
                                *[[*before, (desk, name), *after] for name in 'xyz']):
                    thing = table[:at] + [changed] + table[at + 1:]
                    self.assertIs(is_never(ring(), ['x', 'y', 'z'], wishes, thing), changed == given, changed)
                    if any(len(item) != 2 or type(item) is list for item in changed) or len(changed) != 6:
                        self.assertIs(is_never(ring(), ['x', 'y', 'z'], wishes, table + [changed]), False)

    def test_keepers_of_other_crews(self):
        wishes, table = self.cyclic()
        odd = [('x', 'y'), *table[0][1:]]
        self.assertIs(is_never(ring(), ['x', 'y', 'z'], wishes, [*table, odd]), False)
        roster, line = Roster(['a', 'b', 'c'], [('x', ['a', 'b']), ('y', ['c'])]), ['a', 'b', 'c']
        self.assertIs(is_never(roster, line, [('x', 'b')], [[('x', 'a'), ('y', 'c')]]), True)
        self.assertIs(is_never(roster, line, [('x', 'b')], [[('x', 'a'), ('y', 'c')], [('x', 'c'), ('y', 'c')]]), False)
        self.assertIs(is_never(roster, line, [('x', 'b')], [[('x', 'a'), ('y', 'c')], [('y', 'c'), ('x', 'a')]]), False)

    def test_other_values_in_every_place(self):
        wishes, table = self.cyclic()
        roster, line = ring(), ['x', 'y', 'z']
        values = [value for value in odd_values()] + [nested(17), 'x', Odd(), ['x'], ('x', 'x')]
        for value in values + [tuple(table), {1: table}, iter(table), ('never', table), [table], 'never']:
            self.assertIs(is_never(roster, line, wishes, value), False, repr(value)[:80])
            self.assertIs(is_never(roster, line, wishes, [*table, value]), False)
            self.assertIs(is_never(roster, line, wishes, [value, *table]), False)
        for given in table:
            self.assertIs(is_never(roster, line, wishes, given), False)
        for at in (0, 3, 5):
            given = table[at]
            for place in (0, 1, 5):
                desk, worker = given[place]
                for value in values:
                    for item in (value, (value, worker), (desk, value), (value, value)):
                        thing = table[:at] + [given[:place] + [item] + given[place + 1:]] + table[at + 1:]
                        good = item == given[place] and type(item) is tuple and [type(part) for part in item] == [str, str]
                        self.assertIs(is_never(roster, line, wishes, thing), good, repr(item)[:80])
            self.assertIs(is_never(roster, line, wishes, table[:at] + [tuple(given)] + table[at + 1:]), False)
            self.assertIs(is_never(roster, line, wishes, table[:at] + [dict(given)] + table[at + 1:]), False)
            self.assertIs(is_never(roster, line, wishes, table + [[list(item) for item in given]]), False)

    def test_the_empty_list_and_no_desks(self):
        for roster in [first(), ring(), *small_rosters()]:
            for wishes in wishes_of(roster):
                self.assertIs(is_never(roster, lines_of(roster)[0], wishes, []), False)
        bare = Roster(['a'], [])
        for thing in ([], [[]], [[], []], [[[]]], None):
            self.assertIs(is_never(bare, ['a'], [], thing), False)

    def test_a_list_that_is_changed_between_two_calls(self):
        wishes, table = self.cyclic()
        line = ['x', 'y', 'z']
        self.assertIs(is_never(ring(), line, wishes, table), True)
        last = table.pop()
        self.assertIs(is_never(ring(), line, wishes, table), False)
        table.append(last)
        self.assertIs(is_never(ring(), line, wishes, table), True)
        item = table[2].pop()
        self.assertIs(is_never(ring(), line, wishes, table), False)
        table[2].append(item)
        self.assertIs(is_never(ring(), line, wishes, table), True)
        wishes.pop()
        self.assertIs(is_never(ring(), line, wishes, table), False)

    def test_by_turns(self):
        wishes, table = self.cyclic()
        self.by_turns(is_never, [(ring(), ['x', 'y', 'z'], wishes, table), (ring(), ['x', 'y', 'z'], wishes[1:], table),
                                 (first(), ['cid', 'ann', 'bob'], [('ab', 'bob')], [[('ab', 'ann'), ('bc', 'cid'), ('c', 'cid')]]),
                                 (ring(), ['z', 'y', 'x'], wishes, table), (ring(), ['x', 'y', 'z'], wishes, table[1:])])


if __name__ == '__main__':
    unittest.main()
