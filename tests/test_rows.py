"""Tests of [85] to [88], and of [11]."""

import unittest
from itertools import combinations, permutations, product
from random import Random

from deskkeepers.errors import NoCover, NoNumber, NotLean, NotLive, NotRow
from deskkeepers.lines import follow
from deskkeepers.rosters import Roster
from deskkeepers.rows import fewest_cover, is_fewest_cover, largest_lean, lean_many, lean_number, lean_of, settle_row
from deskkeepers.settling import settle
from plain import Case, distances, is_plain_cover, is_plain_lean, plain_keepers, plain_live, subsets
from samples import Odd, first, lines_of, names, nested, odd_values, ring

FUNCTIONS = (lambda roster, row: fewest_cover(roster, row, []), lambda roster, row: is_fewest_cover(roster, row, [], ([], [])),
             lambda roster, row: settle_row(roster, row, row, []), lambda roster, row: lean_many(roster, row, []),
             lambda roster, row: lean_of(roster, row, [], 10 ** 30), lambda roster, row: lean_number(roster, row, [], []),
             lambda roster, row: largest_lean(roster, row, []))


def row_roster(row, spans):
    """A roster whose crews are the parts of the row with these first and last indexes."""
    desks = list(zip(names(len(spans), 'd'), [row[one:last + 1][::-1] for one, last in spans]))
    return Roster(row, desks[::-1])


def row_rosters():
    """Rosters with a row; the names do not ascend along it."""
    found = []
    for row in (['b', 'a', 'c'], ['c', 'd', 'a', 'b']):
        spans = list(combinations(range(len(row)), 2)) + [(at, at) for at in range(len(row))]
        for many in range(4 if len(row) == 3 else 3):
            for some in combinations(spans, many):
                found.append((row_roster(row, list(some)), row))
    chance = Random(5)
    for size in (5, 5, 5, 6, 6, 7):
        for many in range(2, 9, 2):
            row = names(size)
            chance.shuffle(row)
            spans = [sorted((chance.randrange(size), chance.randrange(size))) for _ in range(many)]
            found.append((row_roster(row, [(one, min(last, one + 3)) for one, last in spans]), row))
    return [*found, chain(7, 2), chain(6, 3), chain(4, 1)]


def is_row(roster, row):
    """Whether no worker that is not of a crew stands between two of the crew."""
    return not any(row[one] in crew and row[between] not in crew and row[last] in crew
                   for desk in roster.desks() for crew in [roster.crew(desk)]
                   for one, between, last in combinations(range(len(row)), 3))


def first_uncovered(roster, workers):
    """The least desk whose crew has no member among the workers, or None."""
    return next((desk for desk in roster.desks() if not set(roster.crew(desk)) & set(workers)), None)


def plain_leans(roster, row, workers):
    """The lean covers among the workers, in the order of their numbers."""
    choice = [worker for worker in row if worker in workers]
    return sorted([some for some in subsets(choice) if is_plain_lean(roster, some)], key=lambda some: [row.index(name) for name in some])


def plain_steps(roster, row, workers):
    """The steps as [88] defines them, each with those to which it goes on and whether it ends."""
    choice = [worker for worker in row if worker in workers]
    crews = [[at for at, worker in enumerate(choice) if worker in roster.crew(desk)] for desk in roster.desks()]
    steps = [(before, at) for at in range(len(choice)) for before in [None, *range(at)]
             if not any(all((before is None or before < member) and member < at for member in crew) for crew in crews)]
    on = {step: [] for step in steps}
    ending = []
    for before, at in steps:
        for later in range(at + 1, len(choice)):
            if (at, later) in steps and any(at in crew and before not in crew and later not in crew for crew in crews):
                on[before, at].append((at, later))
        if not any(all(member > at for member in crew) for crew in crews) and any(at in crew and before not in crew for crew in crews):
            ending.append((before, at))
    return choice, steps, on, ending


def plain_worths(roster, row, workers):
    """The table of [88], each worth the longest of all ways to go on."""
    choice, steps, on, ending = plain_steps(roster, row, workers)

    def ways(step):
        """The numbers of steps of all ways in which a step goes on and ends."""
        return ([1] if step in ending else []) + [many + 1 for following in on[step] for many in ways(following)]

    return [(None if before is None else choice[before], choice[at], max(ways((before, at)), default=None)) for before, at in steps]


def chain(many, width=3, step=1):
    """As many workers in a row, and a desk for each few of them that stand together."""
    row = names(many)
    return row_roster(row, [(at, min(at + width - 1, many - 1)) for at in range(0, many - width + 1, step)]), row


class RowCase(Case):
    def pair(self, roster, workers, found):
        """Check a cover and desks that are returned."""
        self.assertIs(type(found), tuple)
        cover, desks = found
        self.assertEqual([cover, desks], [sorted(set(cover)), sorted(set(desks))])
        self.assertTrue(set(cover) <= set(workers) and set(desks) <= set(roster.desks()))
        self.assertTrue(is_plain_cover(roster, cover))
        self.assertEqual(len(cover), len(desks))
        for one, other in combinations(desks, 2):
            self.assertFalse(set(roster.crew(one)) & set(roster.crew(other)) & set(workers))


class TestNotRow(Case):
    def test_the_least_desk_before_any_other_error(self):
        refused = set()
        for roster in (first(), ring(), Roster(['a', 'b', 'c', 'd'], [('z', ['a', 'c']), ('y', ['b', 'd']), ('x', ['a', 'b', 'c'])]),
                       Roster(['a', 'b', 'c', 'd'], [('x', ['a']), ('y', ['a', 'd']), ('w', ['b', 'c', 'd'])])):
            for row in permutations(roster.workers()):
                row = list(row)
                bad = [desk for desk in roster.desks() if not is_row(Roster(row, [(desk, roster.crew(desk))]), row)]
                refused.add(len(bad))
                for function in FUNCTIONS:
                    if bad:
                        self.raises(NotRow(bad[0]), function, roster, row)
                    else:
                        self.assertNotIn('NotRow', self.outcome(function, roster, row))
        self.assertTrue(refused >= {0, 1, 2}, refused)

    def outcome(self, function, roster, row):
        """The name of the error that the function raises, or ''."""
        try:
            function(roster, row)
        except ValueError as error:
            return type(error).__name__
        return ''

    def test_right_arguments_for_everything_else(self):
        roster, row = Roster(['a', 'b', 'c'], [('x', ['a', 'c']), ('y', ['b'])]), ['a', 'b', 'c']
        whole = ['a', 'b', 'c']
        self.raises(NotRow('x'), fewest_cover, roster, row, whole)
        self.raises(NotRow('x'), is_fewest_cover, roster, row, whole, (['a', 'b'], ['x', 'y']))
        self.raises(NotRow('x'), settle_row, roster, row, whole, ['a', 'b'])
        self.raises(NotRow('x'), lean_many, roster, row, whole)
        self.raises(NotRow('x'), lean_of, roster, row, whole, 0)
        self.raises(NotRow('x'), lean_number, roster, row, whole, ['a', 'b'])
        self.raises(NotRow('x'), largest_lean, roster, row, whole)
        # The whole crew counts, not only its members among the workers.
        self.raises(NotRow('x'), lean_many, roster, row, ['a', 'b'])
        self.assertEqual(lean_many(roster, ['b', 'a', 'c'], ['a', 'b']), 1)


class TestFewestCover(RowCase):
    def test_against_all_subsets(self):
        sizes = set()
        for roster, row in row_rosters():
            for workers in subsets(roster.workers())[::-1 if len(row) < 5 else -3]:
                bad = first_uncovered(roster, workers)
                for way in (row, row[::-1]):
                    if bad is not None:
                        self.raises(NoCover(bad), fewest_cover, roster, way, workers)
                        continue
                    found = self.steady(fewest_cover, roster, way, workers[::-1])
                    self.pair(roster, workers, found)
                    fewest = min(len(some) for some in subsets(workers) if is_plain_cover(roster, some))
                    self.assertEqual(len(found[0]), fewest)
                    self.assertIs(is_fewest_cover(roster, way, workers, found), True)
                    sizes.add(fewest)
        self.assertTrue(sizes >= {0, 1, 2, 3, 4})

    def test_no_workers_and_no_desks(self):
        self.raises(NoCover('ab'), fewest_cover, first(), ['ann', 'bob', 'cid'], [])
        self.raises(NoCover('c'), fewest_cover, first(), ['ann', 'bob', 'cid'], ['bob'])
        bare = Roster(['a', 'b'], [])
        for workers in ([], ['b'], ['b', 'a']):
            self.assertEqual(fewest_cover(bare, ['b', 'a'], workers), ([], []))

    def test_forty_workers_and_sixty_desks(self):
        chance = Random(3)
        for step in range(6):
            row = names(40)
            chance.shuffle(row)
            spans = [(at, min(39, at + chance.randrange(7))) for at in (chance.randrange(40) for _ in range(60))]
            roster = row_roster(row, spans)
            workers = sorted({worker for one, last in spans for worker in [row[(one + last) // 2], row[last]]})
            for way in (row, row[::-1]):
                for some in (names(40), workers):
                    found = self.steady(fewest_cover, roster, way, some)
                    self.pair(roster, some, found)
                    self.assertIs(is_fewest_cover(roster, way, some, found), True)

    def test_by_turns(self):
        roster, row = chain(5)
        self.by_turns(fewest_cover, [(roster, row, row), (first(), ['ann', 'bob', 'cid'], ['ann', 'bob', 'cid']), (roster, row[::-1], row[1:4]),
                                     (first(), ['cid', 'bob', 'ann'], ['cid', 'ann'])])


class TestIsFewestCover(RowCase):
    def test_all_pairs_of_lists(self):
        found = set()
        for roster, row in row_rosters()[:60:4]:
            for workers in subsets(row):
                covers = [some for some in subsets(workers) if is_plain_cover(roster, some)]
                fewest = min([len(some) for some in covers], default=None)
                for cover, desks in product(subsets(row), subsets(roster.desks())):
                    for some in (cover, cover[::-1]):
                        apart = all(not set(roster.crew(one)) & set(roster.crew(other)) & set(workers) for one, other in combinations(desks, 2))
                        wanted = (sorted(some) in [sorted(each) for each in covers] and some == sorted(some) and len(some) == fewest == len(desks) and apart)
                        self.assertIs(is_fewest_cover(roster, row, workers, (some, desks)), wanted)
                        found.add((wanted, len(desks)))
        self.assertTrue(found >= {(True, 0), (True, 1), (True, 2)})

    def test_no_cover_among_the_workers(self):
        for workers in ([], ['ann'], ['bob'], ['ann', 'bob']):
            for thing in (([], []), (['cid', 'ann'], ['ab', 'c']), (['ann', 'cid'], ['ab', 'c']), (['bob'], ['ab']), None):
                self.assertIs(is_fewest_cover(first(), ['ann', 'bob', 'cid'], workers, thing), False)

    def test_changed_lists(self):
        roster, row = chain(7, 3)
        workers = row
        good = fewest_cover(roster, row, workers)
        self.assertEqual(good, (['wac', 'waf'], ['daa', 'dad']))
        self.assertIs(is_fewest_cover(roster, row, workers, good), True)
        cover, desks = good
        for thing in ((cover[::-1], desks), (cover, desks[::-1]), (desks, cover), (cover + ['wag'], desks), (cover + ['wag'], desks + ['dae']),
                      (cover[:1], desks), (cover, desks[:1]), (cover[:1], desks[:1]), (cover * 2, desks * 2), (cover + cover[-1:], desks),
                      (cover, desks + desks[-1:]), (cover[:1] * 2, desks), (cover, desks[:1] * 2), (['wab', 'wae'], ['daa', 'dab']),
                      (cover, ['daa', 'dac']), (['wac', 'no'], desks), (cover, ['daa', 'no']), (tuple(cover), desks), (cover, tuple(desks)),
                      [cover, desks], (cover, desks, []), (cover,), (cover, desks, None), (good,), {0: cover, 1: desks}, cover, desks,
                      (['waa', 'wac', 'waf'], ['daa', 'dad']), ([], []), (['WAC', 'waf'], desks)):
            self.assertIs(is_fewest_cover(roster, row, workers, thing), False, thing)
        self.assertIs(is_fewest_cover(roster, row, workers, (['wac', 'wad'], ['daa', 'dad'])), False)
        self.assertIs(is_fewest_cover(roster, row, workers, (['wac', 'wae'], ['daa', 'dae'])), True)
        self.assertIs(is_fewest_cover(roster, row, workers[:2] + workers[3:], good), False)

    def test_desks_that_share_no_worker_among_the_workers(self):
        roster, row = chain(5, 3)
        for workers, thing, wanted in ((['waa', 'wad'], (['waa', 'wad'], ['daa', 'dab']), True), (['waa', 'wac', 'wad'], (['wac'], ['daa']), True),
                                       (['waa', 'wab', 'wad'], (['wab', 'wad'], ['daa', 'dab']), False),
                                       (['waa', 'wab', 'wad'], (['wab', 'wad'], ['daa', 'dac']), True)):
            self.assertIs(is_fewest_cover(roster, row, workers, thing), wanted, (workers, thing))

    def test_other_values_in_every_place(self):
        roster, row = chain(7, 3)
        good = fewest_cover(roster, row, row)
        values = odd_values() + [nested(18), 'x', Odd(), ['x'], ('x', 'x')]
        for value in values:
            self.assertIs(is_fewest_cover(roster, row, row, value), False)
            for thing in ((value, good[1]), (good[0], value), (value, value), (*good, value)):
                self.assertIs(is_fewest_cover(roster, row, row, thing), False, repr(thing)[:80])
            for side, place in product((0, 1), (0, 1)):
                changed = [list(good[0]), list(good[1])]
                changed[side][place] = value
                self.assertIs(is_fewest_cover(roster, row, row, tuple(changed)), False, repr(changed)[:80])

    def test_without_desks(self):
        for workers in ([], ['a'], ['b', 'a']):
            for thing, wanted in ((([], []), True), ((['a'], []), False), (([], ['x']), False), ([[], []], False), (((), ()), False), ((), False)):
                self.assertIs(is_fewest_cover(Roster(['a', 'b'], []), ['b', 'a'], workers, thing), wanted)


class TestSettleRow(RowCase):
    def test_the_calls_followed_and_the_desks(self):
        sizes = set()
        for roster, row in row_rosters():
            lines = lines_of(roster)
            for line in lines[::1 + len(lines) // 8]:
                kept, live = dict(plain_keepers(roster, line)), plain_live(roster, line)
                for cover in subsets(roster.workers()):
                    if not is_plain_lean(roster, cover) or not set(cover) <= live:
                        continue
                    calls, desks = self.steady(settle_row, roster, row, line, cover[::-1])
                    self.assertEqual(plain_live(roster, follow(roster, line, calls)[1]), set(cover))
                    self.assertEqual(len(calls), len(settle(roster, line, cover)))
                    self.assertEqual([desks, len(desks)], [sorted(set(desks)), len(calls)])
                    self.assertTrue(all(kept[desk] not in cover for desk in desks))
                    for one, other in combinations(desks, 2):
                        self.assertFalse(set(roster.crew(one)) & set(roster.crew(other)) & set(cover))
                    self.assertEqual(len(settle_row(roster, row[::-1], line, cover)[0]), len(calls))
                    sizes.add(len(calls))
        self.assertTrue(sizes >= {0, 1, 2}, sizes)

    def test_the_fewest_calls(self):
        for roster, row in row_rosters()[:80:5]:
            for line in lines_of(roster)[::3]:
                away = distances(roster, line)
                for cover in subsets(roster.workers()):
                    near = [many for after, many in away.items() if plain_live(roster, list(after)) == set(cover)]
                    if is_plain_lean(roster, cover) and near:
                        self.assertEqual(len(settle_row(roster, row, line, cover)[0]), min(near))

    def test_errors_in_their_order(self):
        found = set()
        for roster, row in row_rosters()[::6]:
            for line in lines_of(roster)[::1 + len(row) ** 2]:
                live = plain_live(roster, line)
                for cover in subsets(row):
                    absent = sorted(set(cover) - live)
                    if not is_plain_lean(roster, cover):
                        self.raises(NotLean(), settle_row, roster, row, line, cover)
                        found.add('NotLean')
                    elif absent:
                        self.raises(NotLive(absent[0]), settle_row, roster, row, line, cover)
                        self.raises(NotLive(absent[0]), settle_row, roster, row, line, cover[::-1])
                        found.add('NotLive')
        self.assertEqual(found, {'NotLean', 'NotLive'})
        self.raises(NotRow('ab'), settle_row, first(), ['ann', 'cid', 'bob'], ['ann', 'cid', 'bob'], [])

    def test_more_than_twelve_members(self):
        ones, others = names(20, 'v'), names(20)
        row = [name for pair in zip(ones, others) for name in pair]
        desks = [('o' + one, [one]) for one in ones] + [('s' + other, [one, other]) for one, other in zip(ones, others)]
        roster = Roster(row, desks)
        calls, lost = self.steady(settle_row, roster, row, others + ones, ones)
        self.assertEqual(sorted(calls), ['o' + one for one in ones])
        self.assertEqual(lost, ['s' + other for other in others])
        self.assertEqual(plain_live(roster, follow(roster, others + ones, calls)[1]), set(ones))
        self.assertEqual(settle_row(roster, row, ones + others, ones), ([], []))
        self.raises(NotLean(), settle_row, roster, row, others + ones, ones[1:])

    def test_without_desks(self):
        bare = Roster(['a', 'b'], [])
        self.assertEqual(settle_row(bare, ['b', 'a'], ['a', 'b'], []), ([], []))
        self.raises(NotLean(), settle_row, bare, ['b', 'a'], ['a', 'b'], ['a'])


class TestNumbers(Case):
    def test_there_and_back(self):
        sizes = set()
        for roster, row in row_rosters():
            for workers in subsets(roster.workers())[::-1 if len(row) < 5 else -5]:
                bad = first_uncovered(roster, workers)
                for way in (row, row[::-1]):
                    if bad is not None:
                        self.raises(NoCover(bad), lean_many, roster, way, workers)
                        self.raises(NoCover(bad), lean_of, roster, way, workers, 0)
                        self.raises(NoCover(bad), lean_of, roster, way, workers, 10 ** 39)
                        self.raises(NoCover(bad), lean_number, roster, way, workers, workers)
                        self.raises(NoCover(bad), largest_lean, roster, way, workers)
                        continue
                    leans = plain_leans(roster, way, workers)
                    self.assertEqual(self.steady(lean_many, roster, way, workers[::-1]), len(leans))
                    self.assertEqual([self.steady(lean_of, roster, way, workers, number) for number in range(len(leans))], leans)
                    for number in (len(leans), len(leans) + 1, 10 ** 39):
                        self.raises(NoNumber(number), lean_of, roster, way, workers, number)
                    for some in subsets(roster.workers()):
                        ordered = [worker for worker in way if worker in some]
                        wanted = leans.index(ordered) if ordered in leans else None
                        self.assertEqual(self.steady(lean_number, roster, way, workers, some), wanted)
                        self.assertEqual(lean_number(roster, way, workers, some[::-1]), wanted)
                    sizes.add(len(leans))
        self.assertTrue(sizes >= {1, 2, 3, 4, 7}, sizes)

    def test_covers_of_other_workers(self):
        roster, row = chain(4, 2)
        self.assertEqual([lean_number(roster, row, row, cover) for cover in (['waa', 'wac'], ['wac', 'wab'], ['wad', 'wab'])], [0, 1, 2])
        self.assertEqual([lean_number(roster, row, row[1:], cover) for cover in (['waa', 'wac'], ['wac', 'wab'], ['wad', 'wab'])], [None, 0, 1])
        for cover in ([], ['waa'], ['wab'], row, row[1:], ['waa', 'wad'], ['waa', 'wab', 'wac']):
            self.assertIsNone(lean_number(roster, row, row, cover))

    def test_no_desks_and_one_worker(self):
        bare = Roster(['a', 'b'], [])
        for workers in ([], ['a'], ['b', 'a']):
            self.assertEqual([lean_many(bare, ['b', 'a'], workers), lean_of(bare, ['b', 'a'], workers, 0)], [1, []])
            self.raises(NoNumber(1), lean_of, bare, ['b', 'a'], workers, 1)
            self.assertEqual([lean_number(bare, ['b', 'a'], workers, cover) for cover in ([], ['a'], ['a', 'b'])], [0, None, None])
        one = Roster(['a'], [('x', ['a']), ('y', ['a'])])
        self.assertEqual([lean_many(one, ['a'], ['a']), lean_of(one, ['a'], ['a'], 0), lean_number(one, ['a'], ['a'], ['a'])], [1, ['a'], 0])
        self.raises(NoNumber(1), lean_of, one, ['a'], ['a'], 1)
        self.raises(NoCover('x'), lean_of, one, ['a'], [], 1)

    def test_forty_workers(self):
        for width, step in ((2, 1), (3, 1), (4, 2), (8, 1)):
            roster, row = chain(40, width, step)
            many = lean_many(roster, row, row)
            self.assertGreater(many, 100)
            covers = []
            for number in (0, 1, 2, many // 3, many // 2, many - 2, many - 1):
                cover = self.steady(lean_of, roster, row, row, number)
                self.assertEqual(lean_number(roster, row, row, cover[::-1]), number)
                self.assertEqual(cover, sorted(cover))
                for left_out in cover:
                    self.assertFalse(is_plain_cover(roster, [name for name in cover if name != left_out]))
                self.assertTrue(is_plain_cover(roster, cover))
                covers.append(cover)
            self.assertEqual(covers, sorted(covers))
            self.raises(NoNumber(many), lean_of, roster, row, row, many)
            self.assertEqual(lean_many(roster, row[::-1], row), many)
        # No two neighbours are left out, and nobody of three who stand together is without need.
        roster, row = chain(40, 2)
        counts = [1, 2, 2, 3, 4, 5, 7]
        self.assertEqual([lean_many(*chain(many, 2), names(many)) for many in range(2, 8)], counts[1:])
        padovan = [2, 2, 3]
        while len(padovan) < 39:
            padovan.append(padovan[-2] + padovan[-3])
        self.assertEqual(lean_many(roster, row, row), padovan[38])

    def test_sixty_desks(self):
        chance = Random(8)
        row = names(40)
        chance.shuffle(row)
        spans = [(at, min(39, at + 1 + chance.randrange(6))) for at in (chance.randrange(40) for _ in range(60))]
        roster = row_roster(row, spans)
        many = lean_many(roster, row, names(40))
        for number in (0, many // 7, many - 1):
            self.assertEqual(lean_number(roster, row, names(40), lean_of(roster, row, names(40), number)), number)
        cover, table = largest_lean(roster, row, names(40))
        self.assertEqual(len(cover), max(worth for before, _, worth in table if before is None and worth is not None))
        self.assertIsNotNone(lean_number(roster, row, names(40), cover))

    def test_by_turns(self):
        roster, row = chain(5)
        self.by_turns(lean_of, [(roster, row, row, 1), (first(), ['ann', 'bob', 'cid'], ['ann', 'bob', 'cid'], 0), (roster, row[::-1], row, 1),
                                (roster, row, row[1:], 1)])
        self.by_turns(lean_many, [(roster, row, row), (first(), ['ann', 'bob', 'cid'], ['ann', 'bob', 'cid']), (roster, row[::-1], row[1:])])


class TestLargestLean(Case):
    def test_all_steps_against_their_definition(self):
        worths = set()
        for roster, row in row_rosters():
            for workers in subsets(roster.workers())[::-1 if len(row) < 5 else -5]:
                if first_uncovered(roster, workers) is not None:
                    continue
                for way in (row, row[::-1]):
                    found = self.steady(largest_lean, roster, way, workers[::-1])
                    self.assertIs(type(found), tuple)
                    cover, table = found
                    leans = plain_leans(roster, way, workers)
                    self.assertEqual(len(cover), max(len(some) for some in leans))
                    self.assertIn(cover, leans)
                    self.assertEqual(table, plain_worths(roster, way, workers))
                    worths |= {worth for _, _, worth in table}
        self.assertTrue(worths >= {None, 1, 2, 3, 4}, worths)

    def test_lean_covers_are_the_members_of_the_steps(self):
        for roster, row in row_rosters()[::3]:
            if len(roster) == 0:
                continue
            choice, steps, on, ending = plain_steps(roster, row, row)
            found, queue = [], [[step] for step in steps if step[0] is None]
            for way in queue:
                if way[-1] in ending:
                    found.append([choice[at] for _, at in way])
                queue.extend([*way, step] for step in on[way[-1]])
            leans = plain_leans(roster, row, row)
            self.assertEqual(sorted(found), sorted(leans))

    def test_no_desks_and_one_worker(self):
        bare = Roster(['a', 'b', 'c'], [])
        self.assertEqual(largest_lean(bare, ['c', 'b', 'a'], ['a', 'c']), ([], [(None, 'c', None), (None, 'a', None), ('c', 'a', None)]))
        self.assertEqual(largest_lean(bare, ['c', 'b', 'a'], []), ([], []))
        self.assertEqual(largest_lean(Roster(['a'], [('x', ['a'])]), ['a'], ['a']), (['a'], [(None, 'a', 1)]))
        self.assertEqual(largest_lean(Roster(['a'], []), ['a'], ['a']), ([], [(None, 'a', None)]))
        one = Roster(['a', 'b'], [('x', ['a'])])
        self.assertEqual(largest_lean(one, ['a', 'b'], ['a', 'b']), (['a'], [(None, 'a', 1), ('a', 'b', None)]))

    def test_forty_workers(self):
        for width in (1, 2, 3, 10, 40):
            roster, row = chain(40, width)
            cover, table = self.steady(largest_lean, roster, row, row)
            self.assertEqual(len(cover), {1: 40, 2: 26, 3: 20, 10: 6, 40: 1}[width])
            self.assertTrue(is_plain_cover(roster, cover))
            for left_out in cover:
                self.assertFalse(is_plain_cover(roster, [name for name in cover if name != left_out]))
            self.assertEqual(max(worth for before, _, worth in table if before is None and worth is not None), len(cover))

    def test_by_turns(self):
        roster, row = chain(5)
        self.by_turns(largest_lean, [(roster, row, row), (first(), ['ann', 'bob', 'cid'], ['ann', 'bob', 'cid']), (roster, row[::-1], row[1:])])


if __name__ == '__main__':
    unittest.main()
