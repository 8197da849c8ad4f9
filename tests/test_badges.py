"""Tests of [74] and [75]."""

import unittest
from itertools import product

from deskkeepers.badges import compare_badges, is_agreement
from deskkeepers.errors import TooMany, Unlike
from deskkeepers.rosters import Roster
from plain import Case, keepers_lists, plain_keeper, plain_keepers, plain_serve, plain_taken, subsets
from samples import Odd, first, lines_of, mixed_rosters, names, nested, odd_values, paired, ring, small_rosters


def badged(roster, pattern):
    """Badges of the workers, in turn as in the pattern."""
    return [(worker, pattern[at % len(pattern)]) for at, worker in enumerate(roster.workers())]


def own(roster):
    """Each worker with its own name as its badge."""
    return badged(roster, roster.workers())


def plain_steps(one, badges, other, other_badges, pair):
    """For each desk, whether the badges are the same, and the pair after the call."""
    steps = []
    for desk in one.desks():
        after = tuple(plain_taken(roster, given, desk) for roster, given in zip((one, other), pair))
        seen = [dict(marks)[dict(given)[desk]] for marks, given in zip((badges, other_badges), pair)]
        steps.append((seen[0] == seen[1], after))
    return steps


def plain_compare(one, line, badges, other, other_line, other_badges, limit):
    """The search as [74] tells it, over plain lists; None if it meets too many pairs."""
    met, ways = [(plain_keepers(one, line), plain_keepers(other, other_line))], [[]]
    for pair, way in zip(met, ways):
        for desk, (same, after) in zip(one.desks(), plain_steps(one, badges, other, other_badges, pair)):
            if not same:
                return 'apart', [*way, desk]
            if after not in met:
                met.append(after)
                ways.append([*way, desk])
                if len(met) > limit:
                    return None
    return 'alike', met


def first_of_the_shortest(one, line, badges, other, other_line, other_badges, longest):
    """The first of the shortest lists of calls whose last call shows different badges, layer by layer; or None."""
    layer = [([], line, other_line)]
    for _ in range(longest):
        following = []
        for calls, now, there in layer:
            for desk in one.desks():
                if dict(badges)[plain_keeper(one, now, desk)] != dict(other_badges)[plain_keeper(other, there, desk)]:
                    return [*calls, desk]
                following.append(([*calls, desk], plain_serve(one, now, desk)[1], plain_serve(other, there, desk)[1]))
        layer = following
    return None


def is_plain_agreement(one, line, badges, other, other_line, other_badges, thing):
    """What [75] asks of a list of pairs."""
    return (plain_keepers(one, line), plain_keepers(other, other_line)) in thing and all(
        same and after in thing for pair in thing for same, after in plain_steps(one, badges, other, other_badges, pair))


def renamed(roster, letter):
    """The roster with other names of the workers, in the same order, and the same desks."""
    name_of = {worker: letter + worker for worker in roster.workers()}
    return Roster(list(name_of.values()), [(desk, [name_of[worker] for worker in roster.crew(desk)]) for desk in roster.desks()])


def some_cases():
    """Two rosters with the same names of desks, each with a line and badges."""
    rosters = [roster for roster in small_rosters() if len(roster) == 2]
    pairs = [(rosters[at], rosters[(at * 5 + 3) % len(rosters)]) for at in range(len(rosters))]
    three = [roster for roster in small_rosters() if len(roster) == 3]
    pairs += [(three[at], three[(at * 8 + 4) % len(three)]) for at in range(len(three))]
    pairs += [(roster, roster) for roster in (first(), ring(), small_rosters()[0], *mixed_rosters(3, 4, 4))]
    pairs += [(roster, renamed(roster, 'q')) for roster in (first(), ring(), *mixed_rosters(2, 4, 5))]
    pairs += list(zip(mixed_rosters(6, 4, 4, 2), mixed_rosters(6, 3, 4, 5)))
    for at, (one, other) in enumerate(pairs):
        lines, other_lines = lines_of(one), lines_of(other)
        for step in range(6):
            line, other_line = lines[(at + step * 5) % len(lines)], other_lines[(at * 3 + step) % len(other_lines)]
            for pattern, other_pattern in (('r', 'r'), ('rrg', 'rg'), ('rg', 'rgg'), ('rrrg', 'rrrg'), ('rgb', 'rgb'), ('r', 'rrg')):
                yield one, line, badged(one, pattern), other, other_line, badged(other, other_pattern)
    for roster in (first(), ring(), *mixed_rosters(4, 4, 4)):
        for line in lines_of(roster)[::5]:
            for other_line in lines_of(roster)[::7]:
                yield roster, line, own(roster), roster, other_line, own(roster)


class TestCompareBadges(Case):
    def test_as_the_document_tells_it(self):
        kinds = set()
        for case in some_cases():
            found = self.steady(compare_badges, *case)
            self.assertIs(type(found), tuple)
            self.assertEqual(found, plain_compare(*case, 400))
            kinds.add((found[0], len(found[1])))
        self.assertTrue(kinds >= {('apart', 1), ('apart', 2), ('apart', 3), ('alike', 1), ('alike', 2), ('alike', 6)}, kinds)

    def test_the_first_of_the_shortest_calls(self):
        for case in list(some_cases())[::3]:
            kind, found = compare_badges(*case)
            wanted = first_of_the_shortest(*case, 4)
            if wanted is None:
                self.assertTrue(kind == 'alike' or len(found) > 4)
            else:
                self.assertEqual((kind, found), ('apart', wanted))

    def test_all_limits(self):
        kinds = set()
        for case in list(some_cases())[::2]:
            for limit in (1, 2, 3, 4, 5, 6, 7, 8, 12, 1000):
                wanted = plain_compare(*case, limit)
                if wanted is None:
                    self.raises(TooMany(limit), compare_badges, *case, limit=limit)
                    kinds.add('error')
                else:
                    self.assertEqual(compare_badges(*case, limit=limit), wanted)
                    kinds.add(wanted[0])
        self.assertEqual(kinds, {'apart', 'alike', 'error'})

    def test_one_roster_with_itself(self):
        for roster in (first(), ring(), *small_rosters()[::5]):
            for line in lines_of(roster):
                kind, pairs = compare_badges(roster, line, own(roster), roster, line, own(roster))
                self.assertEqual(kind, 'alike')
                self.assertTrue(all(left == right for left, right in pairs))

    def test_lines_with_the_same_keepers_and_others(self):
        for roster in (first(), ring(), *small_rosters()[::3], *mixed_rosters(3, 4, 5)):
            for line in lines_of(roster)[::5]:
                for other in lines_of(roster)[::3]:
                    kind, found = compare_badges(roster, line, own(roster), roster, other, own(roster))
                    differing = [desk for desk in roster.desks() if plain_keeper(roster, line, desk) != plain_keeper(roster, other, desk)]
                    self.assertEqual((kind, found) if differing else kind, ('apart', differing[:1]) if differing else 'alike')

    def test_which_comes_first_the_calls_or_the_error(self):
        # The second call shows a difference; before it the first call leads to a second pair.
        one = Roster(['a', 'b'], [('x', ['a', 'b']), ('y', ['b']), ('z', ['a'])])
        badges, others = [('a', 'red'), ('b', 'red')], [('a', 'blue'), ('b', 'red')]
        self.assertEqual(compare_badges(one, ['b', 'a'], badges, one, ['a', 'b'], [('a', 'red'), ('b', 'blue')], limit=1), ('apart', ['y']))
        self.raises(TooMany(1), compare_badges, one, ['a', 'b'], badges, one, ['b', 'a'], others, limit=1)
        for limit in (2, 3, 400):
            self.assertEqual(compare_badges(one, ['b', 'a'], badges, one, ['b', 'a'], others, limit=limit), ('apart', ['z']))
        two = Roster(['a', 'b'], [('x', ['a', 'b']), ('y', ['b']), ('z', ['a', 'b'])])
        case = (two, ['a', 'b'], [('a', 'red'), ('b', 'red')], two, ['a', 'b'], [('a', 'red'), ('b', 'blue')])
        self.assertEqual(compare_badges(*case, limit=1), ('apart', ['y']))

    def test_the_pair_after_different_badges_is_not_met(self):
        one = Roster(['a', 'b', 'c'], [('x', ['a', 'b']), ('y', ['b']), ('z', ['c'])])
        badges = [('a', 'red'), ('b', 'red'), ('c', 'red')]
        other = [('a', 'red'), ('b', 'blue'), ('c', 'red')]
        self.assertEqual(compare_badges(one, ['a', 'b', 'c'], badges, one, ['a', 'b', 'c'], other, limit=1), ('apart', ['y']))

    def test_badges_that_several_share(self):
        roster, same = paired(3), [(name, 'same') for name in paired(3).workers()]
        line = roster.workers()
        kind, pairs = compare_badges(roster, line, same, roster, line[::-1], same)
        self.assertEqual(kind, 'alike')
        # At each of the three shared desks the keepers differ, as at first, or one of the two was called.
        self.assertEqual(len(pairs), 27)
        self.assertEqual(compare_badges(roster, line, same, roster, line[::-1], own(roster)), ('apart', ['ovaa']))

    def test_without_desks(self):
        one, other = Roster(['a', 'b'], []), Roster(['c'], [])
        for limit in (1, 400):
            self.assertEqual(compare_badges(one, ['b', 'a'], [('a', 'x'), ('b', 'y')], other, ['c'], [('c', 'z')], limit=limit),
                             ('alike', [([], [])]))

    def test_unlike_rosters(self):
        for one, other in ((first(), ring()), (first(), Roster(['ann', 'bob', 'cid'], [])), (Roster(['a'], []), first()),
                           (Roster(['a'], [('x', ['a'])]), Roster(['a'], [('y', ['a'])])),
                           (Roster(['a'], [('x', ['a'])]), Roster(['a'], [('x', ['a']), ('y', ['a'])]))):
            case = (one, one.workers(), own(one), other, other.workers(), own(other))
            self.raises(Unlike(), compare_badges, *case)
            self.raises(Unlike(), compare_badges, *case, limit=1)
            for thing in ([], None, [([], [])], [(plain_keepers(one, one.workers()), plain_keepers(other, other.workers()))]):
                self.raises(Unlike(), is_agreement, *case, thing)

    def test_more_than_four_hundred_pairs(self):
        roster, line = paired(9), paired(9).workers()
        case = (roster, line, own(roster), roster, line, own(roster))
        self.raises(TooMany(400), compare_badges, *case)
        self.raises(TooMany(511), compare_badges, *case, limit=511)
        kind, pairs = compare_badges(*case, limit=512)
        self.assertEqual([kind, len(pairs)], ['alike', 512])
        self.assertEqual(compare_badges(*case, limit=1000), (kind, pairs))
        self.assertIs(is_agreement(*case, pairs), True)
        self.assertIs(is_agreement(*case, pairs[:-1]), False)
        small = paired(8)
        kind, pairs = compare_badges(small, small.workers(), own(small), small, small.workers(), own(small))
        self.assertEqual([kind, len(pairs)], ['alike', 256])

    def test_great_rosters(self):
        roster, line = paired(18), paired(18).workers()
        same = [(name, 'same') for name in line]
        self.raises(TooMany(1000), compare_badges, roster, line, same, roster, line, same, limit=1000)
        full = Roster(names(40), [(name, names(40)) for name in names(60, 'd')])
        self.assertEqual(len(compare_badges(full, names(40), own(full), full, names(40), own(full))[1]), 1)
        last = [*own(roster)[:-1], (own(roster)[-1][0], 'other')]
        self.raises(TooMany(400), compare_badges, roster, line, own(roster), roster, line, last)
        self.assertEqual(compare_badges(roster, line, own(roster), roster, line[::-1], last), ('apart', ['swaa']))

    def test_by_turns(self):
        abc, cab = ['ann', 'bob', 'cid'], ['cid', 'ann', 'bob']
        red = [('ann', 'red'), ('bob', 'red'), ('cid', 'red')]
        self.by_turns(compare_badges, [(first(), abc, own(first()), first(), cab, own(first())), (first(), abc, red, first(), cab, red),
                                       (first(), abc, own(first()), first(), abc, own(first())), (first(), cab, red, first(), cab, own(first()))])


class TestIsAgreement(Case):
    def test_all_sets_of_pairs(self):
        found = set()
        one = Roster(['a', 'b'], [('x', ['a', 'b']), ('y', ['b'])])
        for other in (one, Roster(['c'], [('x', ['c']), ('y', ['c'])]), Roster(['a', 'b'], [('x', ['a']), ('y', ['a', 'b'])])):
            every = [(given, there) for given in keepers_lists(one) for there in keepers_lists(other)]
            for line, other_line in product(lines_of(one), lines_of(other)):
                for badges, other_badges in product((badged(one, 'r'), badged(one, 'rg')), (badged(other, 'r'), badged(other, 'rg'))):
                    for thing in subsets(every):
                        case = (one, line, badges, other, other_line, other_badges, thing)
                        wanted = is_plain_agreement(*case)
                        self.assertIs(is_agreement(*case), wanted)
                        found.add((wanted, len(thing)))
        self.assertTrue(found >= {(True, 1), (True, 2), (False, 0), (False, 1), (False, 4)})

    def test_pairs_that_are_found(self):
        many = 0
        for at, case in enumerate(some_cases()):
            kind, pairs = compare_badges(*case)
            start = (plain_keepers(case[0], case[1]), plain_keepers(case[3], case[4]))
            if kind == 'apart':
                for thing in ([], [start], [start] * 3):
                    self.assertIs(is_agreement(*case, thing), False)
                continue
            self.assertIs(self.steady(is_agreement, *case, pairs), True)
            self.assertIs(is_agreement(*case, pairs[::-1]), True)
            self.assertIs(is_agreement(*case, pairs + pairs[::2]), True)
            for left_out in range(len(pairs)):
                self.assertIs(is_agreement(*case, pairs[:left_out] + pairs[left_out + 1:]), False)
            every = [(given, there) for given in keepers_lists(case[0])[:6] for there in keepers_lists(case[3])[-6:]]
            for pair in every[::1 + at % 5]:
                self.assertIs(is_agreement(*case, [pair, *pairs]), is_plain_agreement(*case, [pair, *pairs]))
            many += 1
        self.assertGreater(many, 100)

    def ring_case(self):
        roster, line = ring(), ['x', 'y', 'z']
        case = (roster, line, own(roster), roster, list(line), own(roster))
        return case, compare_badges(*case)[1]

    def test_any_order_twice_and_beyond(self):
        case, pairs = self.ring_case()
        self.assertEqual(len(pairs), 6)
        for step in range(1, 6):
            turned = pairs[step:] + pairs[:step]
            self.assertIs(is_agreement(*case, turned), True)
            self.assertIs(is_agreement(*case, turned[::-1] + turned), True)
        self.assertIs(is_agreement(*case, pairs * 50), True)
        # No calls lead to this keepers list, and those that lead on from it lead to pairs that are shown.
        given = [('x', 'x'), ('xy', 'y'), ('y', 'y'), ('yz', 'z'), ('z', 'z'), ('zx', 'x')]
        self.assertIs(is_agreement(*case, [(given, given), *pairs]), True)
        self.assertIs(is_agreement(*case, [*pairs, (given, given), (given, given)]), True)
        self.assertIs(is_agreement(*case, [*pairs, (given, pairs[0][1])]), False)
        self.assertIs(is_agreement(*case, [*pairs, (pairs[1][0], pairs[2][1])]), False)
        self.assertIs(is_agreement(*case, []), False)

    def test_other_arguments(self):
        case, pairs = self.ring_case()
        one, line, badges, other, other_line, other_badges = case
        self.assertIs(is_agreement(one, ['y', 'x', 'z'], badges, other, other_line, other_badges, pairs), False)
        self.assertIs(is_agreement(one, ['y', 'x', 'z'], badges, other, ['y', 'x', 'z'], other_badges, pairs), True)
        self.assertIs(is_agreement(one, line, badges, other, other_line, badged(other, 'r'), pairs), False)
        self.assertIs(is_agreement(one, line, badged(one, 'r'), other, other_line, badged(other, 'r'), pairs), True)

    def test_changed_members(self):
        case, pairs = self.ring_case()
        for at, pair in enumerate(pairs):
            for side in (0, 1):
                given = pair[side]
                for place, (desk, worker) in enumerate(given):
                    before, after = given[:place], given[place + 1:]
                    for changed in ([*before, *after], [*given, given[place]], [given[place], *given], [*after, *before, given[place]],
                                    [*before, (desk, 'no'), *after], [*before, ('no', worker), *after], [*before, (worker, desk), *after],
                                    [*before, [desk, worker], *after], [*before, (desk,), *after], [*before, (desk, worker, None), *after],
                                    *[[*before, (desk, name), *after] for name in 'xyz']):
                        thing = list(pairs)
                        thing[at] = (changed, pair[1]) if side == 0 else (pair[0], changed)
                        self.assertIs(is_agreement(*case, thing), changed == given)
                        if changed != given:
                            self.assertIs(is_agreement(*case, pairs + [thing[at]]), False)

    def test_other_values_in_every_place(self):
        case, pairs = self.ring_case()
        values = odd_values() + [nested(16), 'x', Odd(), ['x'], ('x', 'x'), Odd]
        for value in values + [tuple(pairs), {1: pairs}, iter(pairs), ('alike', pairs), [pairs], [('alike', pairs)]]:
            self.assertIs(is_agreement(*case, value), False, repr(value)[:80])
            self.assertIs(is_agreement(*case, [*pairs, value]), False)
            self.assertIs(is_agreement(*case, [value, *pairs]), False)
        for at in (0, 2, 5):
            one, other = pairs[at]
            rest = pairs[:at] + pairs[at + 1:]
            for item in ([one, other], (one,), (one, other, one), (one, other, None), ((one, other),), (tuple(one), other), (one, tuple(other)),
                         ([list(kept) for kept in one], other), (one, [list(kept) for kept in other]), (dict(one), other), (one, dict(other)),
                         {0: one, 1: other}, one, other, [one], (other, one)):
                self.assertIs(is_agreement(*case, [item, *rest]), item == (one, other) and type(item) is tuple, repr(item)[:80])
            for value in values:
                for item in ((value, other), (one, value), (value, value), (one, other, value)):
                    self.assertIs(is_agreement(*case, [item, *rest]), False)
                for side in (0, 1):
                    for place in (0, 3, 5):
                        desk, worker = pairs[at][side][place]
                        for kept in (value, (value, worker), (desk, value), (value, value)):
                            changed = list(pairs[at][side])
                            changed[place] = kept
                            item = (changed, other) if side == 0 else (one, changed)
                            good = type(kept) is tuple and [type(part) for part in kept] == [str, str] and kept == (desk, worker)
                            self.assertIs(is_agreement(*case, [item, *rest]), good)

    def test_the_very_list_changed_between_two_calls(self):
        case, pairs = self.ring_case()
        self.assertIs(is_agreement(*case, pairs), True)
        last = pairs.pop()
        self.assertIs(is_agreement(*case, pairs), False)
        pairs.insert(2, last)
        self.assertIs(is_agreement(*case, pairs), True)
        kept = pairs[3][1].pop()
        self.assertIs(is_agreement(*case, pairs), False)
        pairs[3][1].append(kept)
        self.assertIs(is_agreement(*case, pairs), True)
        case[2][0] = ('x', 'other')
        self.assertIs(is_agreement(*case, pairs), False)

    def test_without_desks(self):
        case = (Roster(['a', 'b'], []), ['b', 'a'], [('a', 'x'), ('b', 'y')], Roster(['c'], []), ['c'], [('c', 'z')])
        for thing, wanted in (([([], [])], True), ([([], [])] * 3, True), ([], False), ([[]], False), ([()], False), ([([],)], False),
                              ([[[], []]], False), ([([], []), ([('x', 'a')], [])], False), ([((), ())], False), (([], []), False)):
            self.assertIs(is_agreement(*case, thing), wanted)

    def test_by_turns(self):
        case, pairs = self.ring_case()
        other = (first(), ['ann', 'bob', 'cid'], own(first()), first(), ['ann', 'bob', 'cid'], own(first()))
        self.by_turns(is_agreement, [(*case, pairs), (*case, pairs[1:]), (*other, compare_badges(*other)[1]), (*other, pairs)])


if __name__ == '__main__':
    unittest.main()
