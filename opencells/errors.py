"""The refusals: each kind is a class of its own, straight under CellError."""


class CellError(ValueError):
    """Any refusal."""


class TooMany(CellError):
    """More rooms, tries or pieces than are gone through."""


class NotClosed(CellError):
    """A list of lots of which no machine can be made; fault says why."""

    def __init__(self, fault):
        self.fault = fault


class Unlike(CellError):
    """Two machines with unlike counts of asks."""


class NotFull(CellError):
    """A machine with an open cell, where none may be open."""


class Unreached(CellError):
    """A machine with a room to which no row leads, where all must be reached."""


class Clash(CellError):
    """A told answer unlike one told ahead of it; row and place say where."""

    def __init__(self, row, place):
        self.row = row
        self.place = place


class NoWords(CellError):
    """What is no words for a machine."""


class NotOpen(CellError):
    """A cell filled with other than what it has."""


class NoBack(CellError):
    """A fill taken back where none stays."""


class NoText(CellError):
    """What is not written as it must be."""


class NoName(CellError):
    """What is no name, or one by which no machine stands."""


class NoLine(CellError):
    """A line that the desk does not know."""
