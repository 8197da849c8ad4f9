"""Console: a pool that is asked and changed by lines of text."""

from deskkeepers.comparing import depth
from deskkeepers.deeds import NONE, read_deed, read_names, show_deed, show_names
from deskkeepers.errors import NoCommand, NoDesk, NoWorker
from deskkeepers.kinds import are_names, is_name
from deskkeepers.pools import Pool
from deskkeepers.reaching import reach
from deskkeepers.settling import ends, lose, settle

DIGITS = "0123456789"
MOST_DIGITS = 40


def _read_number(word):
    """Return the integer that the word writes, or None."""
    if not 1 <= len(word) <= MOST_DIGITS or not all([sign in DIGITS for sign in word]):
        return None
    return int(word) if word == "0" or word[0] != "0" else None


def _read_wish(word):
    """Return the wish (desk, worker) that the word writes, or None."""
    parts = word.split(":")
    return tuple(parts) if len(parts) == 2 and is_name(parts[0]) and is_name(parts[1]) else None


def _read_wishes(words):
    """Return the wishes of different desks that the words write, or None."""
    wishes = [_read_wish(word) for word in words]
    if None in wishes or not are_names([desk for desk, worker in wishes]):
        return None
    return wishes


class Console:
    """A Pool that is told deeds and asked queries by lines of text."""

    def __init__(self, roster, line):
        self._pool = Pool(roster, line)

    def execute(self, line):
        """Do what the line says and return the answer."""
        if not isinstance(line, str):
            raise NoCommand()
        deed = read_deed(line)
        if deed is not None:
            return self._done(deed)
        words = line.split(" ")
        if len(words) == 1:
            return self._answer(words[0])
        if words[0] == "late":
            return self._late(words)
        if words[0] == "settle":
            return self._settle(words[1:])
        if words[0] == "reach":
            return self._reach(words[1:])
        if len(words) == 2 and is_name(words[1]):
            return self._answer_of(words[0], words[1])
        raise NoCommand()

    def _done(self, deed):
        """Do the deed and return the answer."""
        if deed[0] == "call":
            return self._pool.call(deed[1])
        if deed[0] == "retire":
            self._pool.retire(deed[1])
        else:
            self._pool.hire(deed[1], deed[2])
        return "ok"

    def _late(self, words):
        """Put a deed into the log."""
        at = _read_number(words[1])
        deed = read_deed(" ".join(words[2:]))
        if at is None or deed is None:
            raise NoCommand()
        self._pool.late(at, deed)
        return "ok"

    def _answer(self, word):
        """Return the answer to a line of one word."""
        pool = self._pool
        if word == "undo":
            pool.undo()
            return "ok"
        if word == "redo":
            pool.redo()
            return "ok"
        if word == "line":
            return show_names(pool.line())
        if word == "live":
            return show_names(pool.live())
        if word == "keepers":
            return show_names([f"{desk}:{worker}" for desk, worker in pool.keepers()])
        if word == "log":
            return NONE if len(pool) == 0 else "; ".join([show_deed(deed) for deed in pool.log()])
        if word == "ends":
            return self._ends()
        raise NoCommand()

    def _ends(self):
        """Return the sets of workers to which the pool can settle."""
        roster = self._pool.roster()
        if roster is None:
            return NONE
        sets = ends(roster, self._pool.line())
        return "; ".join([NONE if len(members) == 0 else ",".join(members) for members in sets])

    def _refuse_unknown(self, workers):
        """Raise NoWorker for the first name that is not that of a worker."""
        line = self._pool.line()
        for worker in workers:
            if worker not in line:
                raise NoWorker(worker)

    def _answer_of(self, word, worker):
        """Return the answer to a question about one worker."""
        if word not in ("depth", "lose"):
            raise NoCommand()
        self._refuse_unknown([worker])
        roster = self._pool.roster()
        if word == "lose":
            kind, found = lose(roster, self._pool.line(), worker)
            return f"safe {found}" if kind == "safe" else f"calls {show_names(found)}"
        found = depth(roster, self._pool.line(), worker)
        return NONE if found is None else str(found)

    def _settle(self, words):
        """Return the calls that settle the pool to the workers."""
        cover = read_names(words)
        if cover is None:
            raise NoCommand()
        self._refuse_unknown(cover)
        roster = self._pool.roster()
        return NONE if roster is None else show_names(settle(roster, self._pool.line(), cover))

    def _refuse_impossible(self, wishes):
        """Raise NoDesk or NoWorker for the first wish that the pool can never have."""
        for desk, worker in wishes:
            crew = self._pool.crew(desk)
            if len(crew) == 0:
                raise NoDesk(desk)
            if worker not in crew:
                raise NoWorker(worker)

    def _reach(self, words):
        """Return the calls that lead to the wished keepers, or a cycle of the wishes."""
        wishes = _read_wishes(words)
        if wishes is None:
            raise NoCommand()
        self._refuse_impossible(wishes)
        kind, found = reach(self._pool.roster(), self._pool.line(), wishes)
        return f"{kind} {show_names(found)}"
