"""Tests of [54] and [55]."""

import unittest
from random import Random

from deskkeepers.costs import cheapest, is_price_table, price_table
from deskkeepers.errors import TooMany
from deskkeepers.rosters import Roster
from plain import Case, keepers_lists, meets, plain_follow, plain_keepers, plain_taken, wishes_of
from samples import Odd, first, lines_of, mixed_rosters, names, nested, odd_values, paired, ring, small_rosters

BIG = 10 ** 9


def plain_nodes(roster, line):
    """All keepers lists to which calls lead from a line, in ascending order."""
    found = [plain_keepers(roster, line)]
    for node in found:
        for desk in roster.desks():
            after = plain_taken(roster, node, desk)
            if after not in found:
                found.append(after)
    return sorted(found)


def plain_costs(roster, nodes, wishes, prices):
    """The least costs by rounds: in each round one call more is allowed."""
    costs = [0 if meets(node, wishes) else None for node in nodes]
    steps = [[(price, nodes.index(plain_taken(roster, node, desk))) for desk, price in prices] for node in nodes]
    for _ in nodes:
        for at, calls in enumerate(steps):
            sums = [price + costs[after] for price, after in calls if costs[after] is not None]
            costs[at] = min(sums + [cost for cost in [costs[at]] if cost is not None], default=None)
    return costs


def prices_of(roster, seed=1):
    """Prices of all desks; the seed decides."""
    chance = Random(seed)
    return [(desk, chance.choice([1, 2, 3, 5, 8, 30, BIG])) for desk in roster.desks()]


def even(roster, price=1):
    """The same price for each desk."""
    return [(desk, price) for desk in roster.desks()]


def some_cases():
    """Rosters of three to five workers, with lines, wishes and prices."""
    for roster in [first(), ring(), paired(2), *small_rosters(), *mixed_rosters(3, 4, 5), *mixed_rosters(2, 5, 6)]:
        lines = lines_of(roster)
        for at, line in enumerate(lines[::1 + len(lines) // 4]):
            wishes = wishes_of(roster)
            for number, wanted in enumerate(wishes[::1 + len(wishes) // 14]):
                yield roster, line, wanted, prices_of(roster, at * 100 + number)


class TestPriceTable(Case):
    def test_against_rounds(self):
        none = 0
        for roster, line, wishes, prices in some_cases():
            found = self.steady(price_table, roster, line, wishes, prices)
            nodes = plain_nodes(roster, line)
            self.assertEqual(found, list(zip(nodes, plain_costs(roster, nodes, wishes, prices))))
            self.assertTrue(all(type(item) is tuple for item in found))
            self.assertEqual(price_table(roster, line, wishes[::-1], prices), found)
            self.assertIs(is_price_table(roster, line, wishes, prices, found), True)
            none += [cost for _, cost in found].count(None)
        self.assertGreater(none, 100)

    def test_ascending_order(self):
        found = price_table(ring(), ['z', 'x', 'y'], [('xy', 'y')], even(ring()))
        self.assertEqual(found, sorted(found, key=lambda item: item[0]))
        self.assertEqual(len(found), 6)
        self.assertEqual([cost for given, cost in found], [0 if ('xy', 'y') in given else 1 for given, cost in found])

    def test_where_no_calls_lead_to_the_wishes(self):
        line, wishes = ['cid', 'ann', 'bob'], [('ab', 'bob')]
        self.assertEqual(price_table(first(), line, wishes, even(first())), [([('ab', 'ann'), ('bc', 'cid'), ('c', 'cid')], None)])
        self.assertEqual(cheapest(first(), line, wishes, even(first())), ('never',))
        wishes = [('xy', 'x'), ('yz', 'y'), ('zx', 'z')]
        found = price_table(ring(), ['x', 'y', 'z'], wishes, even(ring(), BIG))
        self.assertEqual([cost for _, cost in found], [None] * 6)
        self.assertIs(is_price_table(ring(), ['x', 'y', 'z'], wishes, even(ring(), BIG), found), True)

    def test_no_way_back(self):
        # Once z is called, a never serves again, so the cost is None there, and a number before.
        roster = Roster(['a', 'b', 'z'], [('x', ['a', 'z']), ('y', ['b', 'a']), ('z', ['z'])])
        found = price_table(roster, ['a', 'z', 'b'], [('x', 'a')], even(roster, 3))
        self.assertEqual(found, [([('x', 'a'), ('y', 'a'), ('z', 'z')], 0), ([('x', 'z'), ('y', 'a'), ('z', 'z')], 3)])
        roster = Roster(['a', 'b', 'z'], [('x', ['a', 'z']), ('z', ['z'])])
        found = price_table(roster, ['a', 'z', 'b'], [('x', 'a')], even(roster, 3))
        self.assertEqual(found, [([('x', 'a'), ('z', 'z')], 0), ([('x', 'z'), ('z', 'z')], None)])

    def test_dear_and_cheap_calls(self):
        roster = Roster(['a', 'b', 'c'], [('a', ['a']), ('ab', ['a', 'b']), ('b', ['b']), ('bc', ['b', 'c']), ('c', ['c'])])
        line, wishes = ['a', 'b', 'c'], [('ab', 'b'), ('bc', 'b')]
        for dear in (1, 2, 7, BIG):
            prices = [('a', 1), ('ab', 1), ('b', dear), ('bc', 2), ('c', 1)]
            kind, cost, calls = cheapest(roster, line, wishes, prices)
            self.assertEqual([kind, cost], ['calls', min(dear, 2)])
            self.assertIn(calls, {1: [['b']], 2: [['b'], ['bc']]}.get(dear, [['bc']]))
            table = dict((tuple(given), cost) for given, cost in price_table(roster, line, wishes, prices))
            self.assertEqual(table[tuple(plain_keepers(roster, line))], min(dear, 2))
            self.assertEqual(table[tuple(plain_keepers(roster, ['c', 'a', 'b']))], dear)

    def test_prices_of_one_and_of_a_thousand_million(self):
        roster = ring()
        for wishes in wishes_of(roster)[::3]:
            calls = [cost for _, cost in price_table(roster, ['x', 'y', 'z'], wishes, even(roster))]
            great = [cost for _, cost in price_table(roster, ['x', 'y', 'z'], wishes, even(roster, BIG))]
            self.assertEqual(great, [None if cost is None else cost * BIG for cost in calls])
            mixed = [(desk, BIG if len(desk) == 2 else 1) for desk in roster.desks()]
            self.assertEqual([cost for _, cost in price_table(roster, ['x', 'y', 'z'], wishes, mixed)], calls)

    def test_limits(self):
        for roster, line, wishes, prices in list(some_cases())[::5]:
            many = len(plain_nodes(roster, line))
            wanted = price_table(roster, line, wishes, prices)
            way = cheapest(roster, line, wishes, prices)
            for limit in {1, 2, many - 1, many, many + 1, 1000} - {0}:
                if limit < many:
                    self.raises(TooMany(limit), price_table, roster, line, wishes, prices, limit=limit)
                    self.raises(TooMany(limit), cheapest, roster, line, wishes, prices, limit=limit)
                else:
                    self.assertEqual(price_table(roster, line, wishes, prices, limit=limit), wanted)
                    self.assertEqual(cheapest(roster, line, wishes, prices, limit=limit)[:2], way[:2])

    def test_the_limit_counts_even_if_the_wishes_are_met(self):
        line = ['x', 'y', 'z']
        for wishes in ([], [('xy', 'x')], [('xy', 'y')]):
            self.raises(TooMany(5), cheapest, ring(), line, wishes, even(ring()), limit=5)
            self.raises(TooMany(1), price_table, ring(), line, wishes, even(ring()), limit=1)
            self.assertEqual(len(price_table(ring(), line, wishes, even(ring()), limit=6)), 6)

    def test_more_than_four_hundred_keepers_lists(self):
        roster, line = paired(9), paired(9).workers()
        wishes = [('s' + name, name) for name in names(9)]
        prices = [(desk, at + 1) for at, desk in enumerate(roster.desks())]
        for function in (price_table, cheapest):
            self.raises(TooMany(400), function, roster, line, wishes, prices)
            self.raises(TooMany(511), function, roster, line, wishes, prices, limit=511)
        table = price_table(roster, line, wishes, prices, limit=512)
        self.assertEqual([len(table), table[0][0], table[0][1]], [512, plain_keepers(roster, line), sum(range(10, 19))])
        self.assertEqual(table, price_table(roster, line, wishes, prices, limit=1000))
        self.assertIs(is_price_table(roster, line, wishes, prices, table[::-1]), True)
        kind, cost, calls = cheapest(roster, line, wishes, prices, limit=512)
        self.assertEqual([kind, cost, sorted(calls)], ['calls', table[0][1], ['o' + name for name in names(9)]])
        self.assertEqual(len(price_table(paired(8), paired(8).workers(), [], even(paired(8)))), 256)
        roster, line = paired(18), paired(18).workers()
        self.raises(TooMany(1000), price_table, roster, line, [], even(roster), limit=1000)

    def test_without_desks(self):
        self.assertEqual(price_table(Roster(['a', 'b'], []), ['b', 'a'], [], []), [([], 0)])
        self.assertEqual(cheapest(Roster(['a'], []), ['a'], [], [], limit=1), ('calls', 0, []))

    def test_by_turns(self):
        calls = [(first(), ['ann', 'bob', 'cid'], [('bc', 'cid')], [('ab', 1), ('bc', 5), ('c', 2)]),
                 (ring(), ['x', 'y', 'z'], [('xy', 'y')], even(ring())), (ring(), ['x', 'y', 'z'], [('xy', 'y')], prices_of(ring())),
                 (first(), ['ann', 'bob', 'cid'], [('ab', 'bob')], even(first()))]
        self.by_turns(price_table, calls)
        self.by_turns(cheapest, calls)


class TestCheapest(Case):
    def test_calls_of_the_least_cost(self):
        kinds = set()
        for roster, line, wishes, prices in some_cases():
            found = self.steady(cheapest, roster, line, wishes, prices)
            least = dict((tuple(given), cost) for given, cost in price_table(roster, line, wishes, prices))
            cost = least[tuple(plain_keepers(roster, line))]
            kinds.add(self.check(roster, line, wishes, prices, found, cost))
        self.assertEqual(kinds, {'calls', 'never'})

    def check(self, roster, line, wishes, prices, found, cost):
        self.assertIs(type(found), tuple)
        if cost is None:
            self.assertEqual(found, ('never',))
        else:
            kind, told, calls = found
            self.assertEqual([kind, told, sum(dict(prices)[desk] for desk in calls)], ['calls', cost, cost])
            self.assertTrue(meets(plain_keepers(roster, plain_follow(roster, line, calls)), wishes))
        return found[0]

    def test_met_already(self):
        self.assertEqual(cheapest(first(), ['ann', 'bob', 'cid'], [('ab', 'ann')], even(first())), ('calls', 0, []))
        self.assertEqual(cheapest(ring(), ['x', 'y', 'z'], [], even(ring(), BIG)), ('calls', 0, []))

    def test_many_prices(self):
        roster = Roster(['k', 'm', 'n', 'p'], [('kn', ['k', 'n']), ('mn', ['m', 'n']), ('m', ['m', 'p']), ('n', ['n']), ('pn', ['p', 'n'])])
        for seed in range(20):
            for wishes in wishes_of(roster)[::3]:
                prices, line = prices_of(roster, seed), ['k', 'm', 'p', 'n']
                nodes = plain_nodes(roster, line)
                cost = plain_costs(roster, nodes, wishes, prices)[nodes.index(plain_keepers(roster, line))]
                self.check(roster, line, wishes, prices, cheapest(roster, line, wishes, prices), cost)


class TestIsPriceTable(Case):
    def cases(self):
        """Cases with numbers, with None, and with both."""
        wishes = [('xy', 'x'), ('yz', 'y'), ('zx', 'z')]
        yield ring(), ['x', 'y', 'z'], wishes, prices_of(ring())
        yield ring(), ['x', 'y', 'z'], [('xy', 'y'), ('zx', 'z')], prices_of(ring(), 2)
        roster = Roster(['a', 'b', 'z'], [('w', ['a', 'b']), ('x', ['a', 'z']), ('y', ['b']), ('z', ['z'])])
        yield roster, ['a', 'b', 'z'], [('x', 'a'), ('w', 'b')], prices_of(roster, 3)
        yield roster, ['a', 'b', 'z'], [], even(roster)

    def test_any_order(self):
        for roster, line, wishes, prices in self.cases():
            table = price_table(roster, line, wishes, prices)
            self.assertGreater(len(table), 1)
            for order in (table, table[::-1], table[1:] + table[:1], table[::2] + table[1::2]):
                self.assertIs(self.steady(is_price_table, roster, line, wishes, prices, order), True)

    def test_entries_left_out_and_doubled(self):
        for roster, line, wishes, prices in self.cases():
            table = price_table(roster, line, wishes, prices)
            for at in range(len(table)):
                without = table[:at] + table[at + 1:]
                self.assertIs(is_price_table(roster, line, wishes, prices, without), self.plain(roster, line, wishes, prices, without))
                self.assertIs(is_price_table(roster, line, wishes, prices, table + [table[at]]), False)
                self.assertIs(is_price_table(roster, line, wishes, prices, [table[at], *table]), False)
                self.assertIs(is_price_table(roster, line, wishes, prices, without + [(table[at][0], None), table[at]]), False)
            self.assertIs(is_price_table(roster, line, wishes, prices, table * 2), False)
            self.assertIs(is_price_table(roster, line, wishes, prices, []), False)

    def plain(self, roster, line, wishes, prices, thing):
        """What [54] asks of a list of tuples (keepers list, cost)."""
        given = [node for node, _ in thing]
        costs = {tuple(node): cost for node, cost in thing}
        if len(costs) < len(thing) or plain_keepers(roster, line) not in given:
            return False
        for node, cost in thing:
            after = [(price, plain_taken(roster, node, desk)) for desk, price in prices]
            if not all(far in given for _, far in after):
                return False
            sums = [price + costs[tuple(far)] for price, far in after if costs[tuple(far)] is not None]
            if cost != (0 if meets(node, wishes) else min(sums, default=None)):
                return False
        return True

    def test_other_costs(self):
        for roster, line, wishes, prices in self.cases():
            table = price_table(roster, line, wishes, prices)
            for at, (given, cost) in enumerate(table):
                others = [0, 1, -1, BIG, 10 ** 40, -BIG, None] + ([] if cost is None else [cost + 1, cost - 1])
                for other in others + [True, False, '', '0', str(cost), [cost], (cost,), b'', [], (), {}, Odd(), nested(17)]:
                    wanted = other == cost and type(other) is type(cost)
                    changed = table[:at] + [(given, other)] + table[at + 1:]
                    self.assertIs(is_price_table(roster, line, wishes, prices, changed), wanted, repr(other)[:80])
            self.assertIs(is_price_table(roster, line, wishes, prices, [(node, None) for node, _ in table]),
                          all(cost is None for _, cost in table))
            self.assertIs(is_price_table(roster, line, wishes, prices, [(node, 0) for node, _ in table]),
                          all(cost == 0 for _, cost in table))
            self.assertIs(is_price_table(roster, line, wishes, prices, [(node, None if cost is None else cost + 1) for node, cost in table]),
                          all(cost is None for _, cost in table))

    def test_truths_in_the_place_of_numbers(self):
        roster = Roster(['a', 'b'], [('x', ['a', 'b']), ('b', ['b'])])
        prices, line, wishes = even(roster), ['a', 'b'], [('x', 'b')]
        table = price_table(roster, line, wishes, prices)
        self.assertEqual(table, [([('b', 'b'), ('x', 'a')], 1), ([('b', 'b'), ('x', 'b')], 0)])
        self.assertIs(is_price_table(roster, line, wishes, prices, table), True)
        self.assertIs(is_price_table(roster, line, wishes, prices, [(table[0][0], True), table[1]]), False)
        self.assertIs(is_price_table(roster, line, wishes, prices, [table[0], (table[1][0], False)]), False)

    def test_more_keepers_lists_than_calls_lead_to(self):
        found = set()
        for roster in (first(), Roster(['a', 'b', 'c'], [('x', ['a', 'b']), ('y', ['b', 'c']), ('z', ['a', 'b'])])):
            nodes = keepers_lists(roster)
            for line in lines_of(roster):
                for number, wishes in enumerate(wishes_of(roster)):
                    prices = prices_of(roster, number)
                    whole = list(zip(nodes, plain_costs(roster, nodes, wishes, prices)))
                    self.assertIs(is_price_table(roster, line, wishes, prices, whole), True)
                    for at in range(len(whole)):
                        some = whole[:at] + whole[at + 1:]
                        wanted = self.plain(roster, line, wishes, prices, some)
                        self.assertIs(is_price_table(roster, line, wishes, prices, some), wanted)
                        found.add(wanted)
                        if whole[at][1] is not None:
                            changed = some + [(whole[at][0], whole[at][1] + 1)]
                            self.assertIs(is_price_table(roster, line, wishes, prices, changed), False)
        self.assertEqual(found, {True, False})

    def test_other_wishes_prices_and_lines(self):
        line, wishes, prices = ['x', 'y', 'z'], [('xy', 'y'), ('zx', 'z')], even(ring(), 2)
        table = price_table(ring(), line, wishes, prices)
        for other in lines_of(ring()):
            self.assertIs(is_price_table(ring(), other, wishes, prices, table), True)
        self.assertIs(is_price_table(ring(), line, wishes[::-1], prices, table), True)
        self.assertIs(is_price_table(ring(), line, wishes[1:], prices, table), False)
        self.assertIs(is_price_table(ring(), line, wishes, even(ring(), 1), table), False)
        small = [(given, cost) for given, cost in table if cost == 0]
        self.assertIs(is_price_table(ring(), line, wishes, prices, small), False)
        self.assertIs(is_price_table(ring(), ['z', 'y', 'x'], wishes, prices, small), False)

    def test_all_desks_must_lead_into_the_table_even_if_the_wishes_are_met(self):
        roster = Roster(['a', 'b'], [('x', ['a', 'b']), ('b', ['b'])])
        met = ([('b', 'b'), ('x', 'a')], 0)
        self.assertIs(is_price_table(roster, ['a', 'b'], [('x', 'a')], even(roster), [met]), False)
        self.assertIs(is_price_table(roster, ['a', 'b'], [('x', 'a')], even(roster), [met, ([('b', 'b'), ('x', 'b')], None)]), True)
        self.assertIs(is_price_table(roster, ['b', 'a'], [('x', 'b')], even(roster), [([('b', 'b'), ('x', 'b')], 0)]), True)

    def test_other_values(self):
        line, wishes, prices = ['ann', 'bob', 'cid'], [('bc', 'cid')], even(first())
        table = price_table(first(), line, wishes, prices)
        self.assertIs(is_price_table(first(), line, wishes, prices, table), True)
        given, cost = table[0]
        others = [tuple(given), dict(given), [list(item) for item in given], given[::-1], given[:-1], given + given[-1:], 'x', None]
        items = [(other, cost) for other in others + odd_values()]
        items += [(given,), (given, cost, cost), [given, cost], (cost, given), given, cost, {1: given}, (given[:1] * 3, cost)]
        items += [([(desk, value) for desk, _ in given], cost) for value in odd_values()]
        items += [([(value, worker) for _, worker in given], cost) for value in odd_values()]
        for item in items + odd_values():
            self.assertIs(is_price_table(first(), line, wishes, prices, [item, *table[1:]]), False, repr(item)[:80])
            self.assertIs(is_price_table(first(), line, wishes, prices, [*table, item]), False, repr(item)[:80])
        for thing in odd_values() + [tuple(table), {1: table}, iter(table), table[0], given, dict((1, row) for row in table), [table]]:
            self.assertIs(is_price_table(first(), line, wishes, prices, thing), False, repr(thing)[:80])

    def test_a_list_that_is_changed_between_two_calls(self):
        line, wishes, prices = ['ann', 'bob', 'cid'], [('bc', 'cid')], even(first())
        table = price_table(first(), line, wishes, prices)
        last = table.pop()
        self.assertIs(is_price_table(first(), line, wishes, prices, table), False)
        table.append(last)
        self.assertIs(is_price_table(first(), line, wishes, prices, table), True)
        prices[2] = ('c', 2)
        self.assertIs(is_price_table(first(), line, wishes, prices, table), self.plain(first(), line, wishes, prices, table))

    def test_by_turns(self):
        calls = []
        for roster, line, wishes, prices in self.cases():
            table = price_table(roster, line, wishes, prices)
            calls += [(roster, line, wishes, prices, table), (roster, line, wishes, prices, table[1:])]
        self.assertIn(False, self.by_turns(is_price_table, calls))


if __name__ == '__main__':
    unittest.main()
