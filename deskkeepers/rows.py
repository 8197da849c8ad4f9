"""Rows: the fewest and the lean covers, where the workers stand in a row in which each crew is consecutive."""

from deskkeepers.covers import is_cover, is_lean
from deskkeepers.errors import NoCover, NoNumber, NotRow
from deskkeepers.kinds import are_names
from deskkeepers.lines import keepers
from deskkeepers.settling import calls_of, refuse_no_end
from deskkeepers.steps import Steps


def _refuse_no_row(roster, row):
    """Raise NotRow for the least desk whose crew is not consecutive in the row."""
    for desk in roster.desks():
        places = [row.index(worker) for worker in roster.crew(desk)]
        if max(places) - min(places) >= len(places):
            raise NotRow(desk)


def _refuse_no_cover(roster, workers):
    """Raise NoCover for the least desk whose crew has no member among the workers."""
    for desk in roster.desks():
        if not any([worker in workers for worker in roster.crew(desk)]):
            raise NoCover(desk)


def _choice(row, workers):
    """Return the workers in the order of the row."""
    return [worker for worker in row if worker in workers]


def _span(roster, choice, desk):
    """Return the first and the last index of the desk's crew in the choice."""
    crew = roster.crew(desk)
    places = [at for at, worker in enumerate(choice) if worker in crew]
    return places[0], places[-1]


def _fewest(roster, choice, desks):
    """Return the fewest of the choice that meet the crews of the desks, and as many desks with nobody in common."""
    cover = []
    apart = []
    reached = -1
    ends = []
    for desk in desks:
        first, last = _span(roster, choice, desk)
        ends.append((last, first, desk))
    # The crew that ends first needs somebody, and its last member meets the most of the others.
    for last, first, desk in sorted(ends):
        if first > reached:
            reached = last
            cover.append(choice[last])
            apart.append(desk)
    return cover, sorted(apart)


def fewest_cover(roster, row, workers):
    """Return the fewest of the workers that are a cover, and as many desks whose crews have nobody in common."""
    _refuse_no_row(roster, row)
    _refuse_no_cover(roster, workers)
    cover, apart = _fewest(roster, _choice(row, workers), roster.desks())
    return sorted(cover), apart


def _are_apart(roster, workers, desks):
    """Return whether none of the workers belongs to the crews of two of the desks."""
    return all([len([desk for desk in roster.desks_of(worker) if desk in desks]) <= 1 for worker in workers])


def _are_ascending(thing):
    """Return whether the thing is a list of names in ascending order."""
    return are_names(thing) and thing == sorted(thing)


def is_fewest_cover(roster, row, workers, thing):
    """Return whether the thing is a tuple as fewest_cover returns."""
    _refuse_no_row(roster, row)
    if not isinstance(thing, tuple) or len(thing) != 2 or not all([_are_ascending(part) for part in thing]):
        return False
    cover, desks = thing
    known = roster.desks()
    if not all([worker in workers for worker in cover]) or not all([desk in known for desk in desks]):
        return False
    # Desks apart need a worker each, so there is no smaller cover than one of as many workers.
    return len(cover) == len(desks) and is_cover(roster, cover) and _are_apart(roster, workers, desks)


def settle_row(roster, row, line, cover):
    """Return the fewest calls that settle the pool to the cover, and as many desks that need one each."""
    _refuse_no_row(roster, row)
    refuse_no_end(roster, line, cover)
    lost = [desk for desk, worker in keepers(roster, line) if worker not in cover]
    called, apart = _fewest(roster, _choice(row, cover), lost)
    return calls_of(roster, line, called), apart


def _steps(roster, row, workers):
    """Return the Steps of the workers in the order of the row."""
    _refuse_no_row(roster, row)
    _refuse_no_cover(roster, workers)
    choice = _choice(row, workers)
    return Steps(len(choice), [_span(roster, choice, desk) for desk in roster.desks()])


def _many_of(steps, ways):
    """Return how many lean covers there are; without desks it is the empty one."""
    first_ones = steps.first_ones()
    return 1 if len(first_ones) == 0 else sum([ways[-1, at] for at in first_ones])


def lean_many(roster, row, workers):
    """Return how many lean covers there are among the workers."""
    steps = _steps(roster, row, workers)
    return _many_of(steps, steps.ways())


def lean_of(roster, row, workers, number):
    """Return the lean cover with the number, in the order of the row."""
    steps = _steps(roster, row, workers)
    ways = steps.ways()
    if number >= _many_of(steps, ways):
        raise NoNumber(number)
    choice = _choice(row, workers)
    cover = []
    rest = number
    before = -1
    following = steps.first_ones()
    while len(following) > 0:
        for at in following:
            if rest < ways[before, at]:
                break
            rest -= ways[before, at]
        cover.append(choice[at])
        following = [] if steps.ends(before, at) else steps.following(before, at)
        before = at
    return cover


def lean_number(roster, row, workers, cover):
    """Return the number of the lean cover, or None if it is no lean cover among the workers."""
    steps = _steps(roster, row, workers)
    if not is_lean(roster, cover) or not all([worker in workers for worker in cover]):
        return None
    ways = steps.ways()
    number = 0
    before = -1
    following = steps.first_ones()
    for at, worker in enumerate(_choice(row, workers)):
        if worker in cover:
            number += sum([ways[before, other] for other in following if other < at])
            following = steps.following(before, at)
            before = at
    return number


def _largest(steps, worths):
    """Return the indexes of a lean cover with the most members."""
    places = []
    before = -1
    following = steps.first_ones()
    rest = max([worths[before, at] for at in following if worths[before, at] is not None], default=0)
    while rest > 0:
        at = [other for other in following if worths[before, other] == rest][0]
        places.append(at)
        following = steps.following(before, at)
        before = at
        rest -= 1
    return places


def largest_lean(roster, row, workers):
    """Return a lean cover with the most members, in the order of the row, and all steps with their worths."""
    steps = _steps(roster, row, workers)
    worths = steps.worths()
    choice = _choice(row, workers)
    cover = [choice[at] for at in _largest(steps, worths)]
    return cover, [(None if before == -1 else choice[before], choice[at], worths[before, at])
                   for before, at in steps.listed()]
