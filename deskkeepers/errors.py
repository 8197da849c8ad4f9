"""The errors of the package. Each keeps the very objects that it was made of."""


class DeskError(ValueError):
    """The class above all other errors of the package."""


class Wrong(DeskError):
    """The argument at this place is not as described."""

    def __init__(self, place):
        self.place = place


class BadDesk(DeskError):
    """The item at this index is no desk of the roster."""

    def __init__(self, at):
        self.at = at


class NoDesk(DeskError):
    """There is no desk of this name."""

    def __init__(self, name):
        self.name = name


class NoWorker(DeskError):
    """There is no worker of this name."""

    def __init__(self, name):
        self.name = name


class NotLive(DeskError):
    """The worker of this name is not live."""

    def __init__(self, name):
        self.name = name


class NotLean(DeskError):
    """The workers are not a lean cover."""


class NoOwn(DeskError):
    """The worker of this name has no own desk."""

    def __init__(self, name):
        self.name = name


class NotRow(DeskError):
    """The crew of the desk of this name is not consecutive in the row."""

    def __init__(self, name):
        self.name = name


class NoCover(DeskError):
    """No allowed worker belongs to the crew of the desk of this name."""

    def __init__(self, name):
        self.name = name


class NotPossible(DeskError):
    """The log is not possible from the entry at this index on."""

    def __init__(self, at):
        self.at = at


class NoNumber(DeskError):
    """Nothing has this number."""

    def __init__(self, number):
        self.number = number


class Unlike(DeskError):
    """The desks of two rosters do not have the same names."""


class TooMany(DeskError):
    """There are more than this limit."""

    def __init__(self, limit):
        self.limit = limit


class Known(DeskError):
    """The name is in use already."""

    def __init__(self, name):
        self.name = name


class Closed(DeskError):
    """The desk of this name is closed."""

    def __init__(self, name):
        self.name = name


class Stopped(DeskError):
    """The deed at this index raises an error."""

    def __init__(self, at):
        self.at = at


class Nothing(DeskError):
    """There is no deed to undo or to redo."""


class NoText(DeskError):
    """The value is no text of the notation."""


class NoCommand(DeskError):
    """The value is no command of the console."""
