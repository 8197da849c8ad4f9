"""Tests of [5] to [12] across the modules: what different functions say of the same pool agrees."""

import unittest
from itertools import product
from random import Random

from deskkeepers import badges, comparing, costs, counting, covers, lines, logs, orders, reaching, rows, scripts, search, settling, sightings
from deskkeepers.notation import read_deeds, read_roster, show_deeds, show_roster
from deskkeepers.pools import Pool
from deskkeepers.rosters import Roster
from modelpool import random_deed
from plain import Case, keepers_lists, outcome, wishes_of
from samples import first, lines_of, mixed_rosters, names, ring, small_rosters
from test_rows import row_rosters


def own(roster):
    """Each worker with its own name as its badge."""
    return [(worker, worker) for worker in roster.workers()]


def some_rosters():
    """Rosters of three to five workers."""
    return [first(), ring(), *small_rosters()[::4], *mixed_rosters(4, 4, 5, 7), *mixed_rosters(2, 5, 6, 8)]


def rosters_and_lines():
    """Rosters, each with some of its lines."""
    for roster in some_rosters():
        every = lines_of(roster)
        for line in every[::1 + len(every) // 7]:
            yield roster, line


def calls_of(roster, many, seed=1):
    """As many calls of desks of the roster, if it has any."""
    chance = Random(seed)
    return [chance.choice(roster.desks()) for _ in range(many if len(roster) else 0)]


def answers_of(roster, line):
    """What many functions say of a roster and one of its lines, without errors that name somebody."""
    desks, workers, kept = roster.desks(), roster.workers(), lines.keepers(roster, line)
    calls, prices = calls_of(roster, 6), [(desk, at + 1) for at, desk in enumerate(desks)]
    log = list(zip(calls, lines.follow(roster, line, calls)[0]))
    answers = [kept, lines.masters(roster, line), lines.follow(roster, line, calls), covers.live(roster, line), settling.ends(roster, line),
               settling.is_settled(roster, line), orders.arrange(roster, kept[::2]), orders.arrangements(roster), logs.facts(roster, log),
               counting.line_many(roster, log), counting.line_number(roster, log, line), comparing.heads(roster, line, 2),
               comparing.compare(roster, line, line[::-1], 2), scripts.period(roster, line, calls), scripts.after(roster, line, calls, 10 ** 30),
               scripts.survivors(roster, line, calls), sightings.histories(roster, [(desk, roster.crew(desk)) for desk in desks[:3]]),
               badges.compare_badges(roster, line, own(roster), roster, line[::-1], own(roster))]
    answers += [lines.taken(roster, kept, desk) for desk in desks]
    answers += [function(roster, line, worker) for worker in workers for function in (comparing.depth, comparing.nearest)]
    for desk in desks:
        for worker in roster.crew(desk):
            answers.append(search.find(roster, line, [(desk, worker)]))
            answers.append(costs.price_table(roster, line, [(desk, worker)], prices))
            answers.append(outcome(reaching.reach, roster, line, [(desk, worker)]))
    answers += [outcome(settling.lose, roster, line, worker) for worker in workers]
    return answers


def renamed(thing, name_of):
    """The thing with every name in it exchanged; a name of a worker and one of a desk are told apart by their letters."""
    if isinstance(thing, str):
        return name_of.get(thing, thing)
    if isinstance(thing, (list, tuple)):
        return type(thing)([renamed(item, name_of) for item in thing])
    return {key: renamed(item, name_of) for key, item in thing.items()} if isinstance(thing, dict) else thing


class TestOrder(Case):
    def test_lines_with_the_same_keepers_have_the_same_servers(self):
        for roster in some_rosters():
            every = lines_of(roster)
            for line, other in list(product(every, repeat=2))[::1 if len(every) < 7 else 29]:
                same = lines.keepers(roster, line) == lines.keepers(roster, other)
                calls = calls_of(roster, 30)
                servers, after = lines.follow(roster, line, calls)
                if same:
                    there, other_after = lines.follow(roster, other, calls)
                    self.assertEqual(servers, there)
                    self.assertEqual(lines.keepers(roster, after), lines.keepers(roster, other_after))
                kind = badges.compare_badges(roster, line, own(roster), roster, other, own(roster))[0]
                self.assertEqual([kind, comparing.compare(roster, line, other, 0)[0]], ['alike' if same else 'apart'] * 2)

    def test_arrangements_are_the_keepers_lists_without_a_cycle(self):
        for roster in [first(), ring(), *small_rosters()[::3], *mixed_rosters(3, 4, 4)]:
            given = {str(lines.keepers(roster, line)) for line in lines_of(roster)}
            self.assertEqual(orders.arrangements(roster), len(given))
            for kept in keepers_lists(roster):
                kind, found = orders.arrange(roster, kept)
                self.assertEqual(kind, 'line' if str(kept) in given else 'cycle')
                self.assertIs(orders.is_cycle(roster, kept, found), kind == 'cycle')


class TestFuture(Case):
    def test_the_live_set_never_grows(self):
        for roster, line in rosters_and_lines():
            for seed in range(3):
                live, pool = covers.live(roster, line), Pool(roster, line)
                for desk in calls_of(roster, 15, seed):
                    self.assertIn(pool.call(desk), live)
                    self.assertTrue(set(pool.live()) <= set(live))
                    live = pool.live()
                    self.assertEqual(live, covers.live(roster, pool.line()))

    def test_live_workers_and_depths(self):
        for roster, line in rosters_and_lines():
            live = covers.live(roster, line)
            for worker in line:
                deep, near = comparing.depth(roster, line, worker), comparing.nearest(roster, line, worker)
                self.assertEqual(worker in live, deep == 0)
                wishes = [(desk, worker) for desk in roster.desks_of(worker)]
                found = [search.find(roster, line, [wish])[0] for wish in wishes]
                self.assertEqual('calls' in found, worker in live)
                if near is not None:
                    pool = Pool(roster, line)
                    for retired in near[0]:
                        pool.retire(retired)
                    self.assertEqual([len(near[0]), pool.call(near[1])], [deep, worker])


class TestSettling(Case):
    def test_settle_rows_and_search_agree(self):
        many = 0
        for roster, row in row_rosters()[::2]:
            for line in lines_of(roster)[::1 + len(row) ** 2 // 2]:
                pool = Pool(roster, line)
                ends = settling.ends(roster, line)
                self.assertEqual(rows.lean_many(roster, row, pool.live()), len(ends))
                found = [rows.lean_of(roster, row, pool.live(), number) for number in range(len(ends))]
                self.assertEqual(sorted(sorted(cover) for cover in found), ends)
                self.assertIn(sorted(rows.largest_lean(roster, row, pool.live())[0]), ends)
                self.assertEqual(len(rows.fewest_cover(roster, row, pool.live())[0]), min(len(cover) for cover in ends))
                for cover in ends:
                    calls = settling.settle(roster, line, cover)
                    self.assertEqual(len(rows.settle_row(roster, row, line, cover)[0]), len(calls))
                    after = pool.copied()
                    for desk in calls:
                        after.call(desk)
                    self.assertEqual(after.live(), cover)
                    self.assertTrue(settling.is_settled(roster, after.line()))
                    # These keepers are all of the cover, so fewer calls do not lead to them.
                    kind, found = search.find(roster, line, after.keepers())
                    self.assertEqual([kind, len(found)], ['calls', len(calls)])
                    many += 1
        self.assertGreater(many, 100)

    def test_search_reaching_and_settling_agree(self):
        kinds = set()
        for roster, line in rosters_and_lines():
            for wishes in wishes_of(roster)[::1 if len(roster) < 4 else 23]:
                told = outcome(reaching.reach, roster, line, wishes)
                kind, found = search.find(roster, line, wishes)
                if told[0] == 'cycle':
                    self.assertEqual(kind, 'never')
                elif told[0] == 'calls':
                    self.assertEqual([kind, len(found)], ['calls', len(told[1])])
                    prices = [(desk, 1) for desk in roster.desks()]
                    self.assertEqual(costs.cheapest(roster, line, wishes, prices)[1], len(found))
                    self.assertTrue(set(wishes) <= set(lines.keepers(roster, lines.follow(roster, line, told[1])[1])))
                kinds.add((told[0], kind))
            live = covers.live(roster, line)
            if settling.is_settled(roster, line) and live:
                for kept in keepers_lists(roster):
                    if {worker for _, worker in kept} <= set(live) and search.find(roster, line, kept)[0] == 'calls':
                        self.assertLess(len(search.find(roster, line, kept)[1]), len(live))
        self.assertTrue(kinds >= {('cycle', 'never'), ('calls', 'calls'), ('NotLive', 'never'), ('NoOwn', 'calls'), ('NoOwn', 'never')}, kinds)

    def test_losing_all_desks(self):
        for roster, line in rosters_and_lines():
            for worker in covers.live(roster, line):
                kind, found = settling.lose(roster, line, worker)
                self.assertEqual(kind == 'safe', all(worker in cover for cover in settling.ends(roster, line)))
                if kind == 'calls':
                    self.assertNotIn(worker, covers.live(roster, lines.follow(roster, line, found)[1]))
                    fewest = min(len(settling.settle(roster, line, cover)) for cover in settling.ends(roster, line) if worker not in cover)
                    self.assertLessEqual(len(found), fewest)


class TestTellingApart(Case):
    def test_compare_heads_and_pools(self):
        for roster in some_rosters():
            every = lines_of(roster)
            for line, other in list(product(every, repeat=2))[::1 if len(every) < 7 else 47]:
                for retirements in range(4):
                    same = comparing.heads(roster, line, retirements + 1) == comparing.heads(roster, other, retirements + 1)
                    found = comparing.compare(roster, line, other, retirements)
                    self.assertEqual(found[0], 'alike' if same else 'apart')
                    if not same:
                        one, two = Pool(roster, line), Pool(roster, other)
                        for worker in found[1]:
                            one.retire(worker)
                            two.retire(worker)
                        self.assertNotEqual(one.call(found[2]), two.call(found[2]))


class TestLogs(Case):
    def test_the_calls_of_a_pool_are_a_possible_log(self):
        for roster, line in rosters_and_lines():
            pool = Pool(roster, line)
            for desk in calls_of(roster, 12):
                log = list(zip([deed[1] for deed in pool.log()], pool.servers()))
                self.assertIsNone(logs.first_bad(roster, log))
                self.assertIn(pool.copied().call(desk), logs.servers(roster, log, desk))
                self.assertIsNotNone(counting.line_number(roster, log, line))
                seen = [(name, [server]) for name, server in log]
                self.assertEqual(sightings.histories(roster, seen), [pool.servers()])
                self.assertEqual(sightings.starts_many(roster, seen), counting.line_many(roster, log))
                pool.call(desk)

    def test_histories_are_possible_logs(self):
        for roster in some_rosters():
            desks = calls_of(roster, 5)
            seen = [(desk, roster.crew(desk)) for desk in desks]
            found = sightings.histories(roster, seen)
            self.assertEqual(sum(counting.line_many(roster, list(zip(desks, servers))) for servers in found), len(lines_of(roster)))
            for servers in found:
                line = counting.line_of(roster, list(zip(desks, servers)), 0)
                self.assertEqual(lines.follow(roster, line, desks)[0], servers)


class TestRepeating(Case):
    def test_scripts_and_pools(self):
        for roster, line in rosters_and_lines():
            script = calls_of(roster, 5, len(line))
            lead, length = scripts.period(roster, line, script)
            self.assertIs(scripts.is_period(roster, line, script, (lead, length)), True)
            pool, met = Pool(roster, line), [line]
            for times in range(lead + length + 3):
                self.assertEqual(scripts.after(roster, line, script, times), pool.line())
                if times < lead + length:
                    served = pool.servers()
                    for desk in script:
                        pool.call(desk)
                    served = pool.servers()[len(served):]
                    self.assertTrue(set(scripts.survivors(roster, line, script)) <= set(served))
                    met.append(pool.line())
                else:
                    for desk in script:
                        pool.call(desk)
            self.assertEqual(met[lead], met[lead + length])


class TestRostersTogether(Case):
    def test_renamed_in_the_same_order(self):
        for roster, line in rosters_and_lines():
            name_of = dict(zip(roster.workers(), names(5, 'kb'))) | dict(zip(roster.desks(), names(6, 'zb')))
            if set(roster.workers()) & set(roster.desks()):
                continue
            other = Roster([name_of[worker] for worker in line], [(name_of[desk], renamed(roster.crew(desk), name_of)) for desk in roster.desks()[::-1]])
            self.assertEqual(answers_of(other, renamed(line, name_of)), renamed(answers_of(roster, line), name_of))

    def test_beside_one_another(self):
        pairs = [(first(), ring()), (ring(), Roster(['a', 'b'], [])), *zip(mixed_rosters(3, 3, 3, 2), small_rosters()[20::9])]
        for one, other in pairs:
            both = one.beside(other)
            for line, there in list(product(lines_of(one), lines_of(other)))[::5]:
                mixed = [worker for at in range(3) for worker in line[at:at + 1] + there[at:at + 1]]
                for whole in (line + there, there + line, mixed):
                    self.assertEqual(lines.keepers(both, whole), sorted(lines.keepers(one, line) + lines.keepers(other, there)))
                    self.assertEqual(covers.live(both, whole), sorted(covers.live(one, line) + covers.live(other, there)))
                    self.assertEqual(len(settling.ends(both, whole)), len(settling.ends(one, line)) * len(settling.ends(other, there)))
                    for alone, order in ((one, line), (other, there)):
                        for worker in order:
                            self.assertEqual(comparing.depth(both, whole, worker), comparing.depth(alone, order, worker))
                            self.assertEqual(comparing.nearest(both, whole, worker), comparing.nearest(alone, order, worker))
                    pool, apart = Pool(both, whole), [(one, Pool(one, line)), (other, Pool(other, there))]
                    for desk in calls_of(both, 8):
                        for alone, each in apart:
                            if desk in alone.desks():
                                self.assertEqual(pool.call(desk), each.call(desk))
            self.assertEqual(orders.arrangements(both), orders.arrangements(one) * orders.arrangements(other))
            self.assertTrue(both.cut(one.workers()) == one)


class TestNotationAndPools(Case):
    def test_a_pool_made_again_from_its_texts(self):
        for seed in range(10):
            chance = Random(seed)
            roster, line = ring(), ['z', 'y', 'x']
            pool = Pool(roster, line)
            for _ in range(60):
                deed = random_deed(chance, ['x', 'y', 'z', 'new', 'newer'], roster.desks())
                outcome(getattr(pool, deed[0]), *deed[1:])
            again = Pool(read_roster(show_roster(roster)), line)
            for deed in read_deeds(show_deeds(pool.log())):
                getattr(again, deed[0])(*deed[1:])
            self.assertEqual([again.log(), again.servers(), again.line(), again.keepers()], [pool.log(), pool.servers(), pool.line(), pool.keepers()])
            late = Pool(roster, line)
            for deed in pool.log():
                late.late(len(late), deed)
            self.assertEqual([late.log(), late.servers(), late.line()], [pool.log(), pool.servers(), pool.line()])


if __name__ == '__main__':
    unittest.main()
