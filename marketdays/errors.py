"""The errors of the program, each with the thing that was wrong."""


class MarketError(ValueError):
    """What all errors of the program are; `value` is the thing that was wrong."""

    def __init__(self, value):
        self.value = value


class InvalidName(MarketError):
    """A name is not one to eight letters from a to z."""


class InvalidTown(MarketError):
    """The bounds of a town's turn are wrong, or a town does not fit its place."""


class DoubleTown(MarketError):
    """A town stood before."""


class InvalidNote(MarketError):
    """A note is none, or asks of one town twice."""


class UnknownTown(MarketError):
    """A name is no town's, or a number is not that of the towns."""


class UnknownNote(MarketError):
    """No note has an index."""


class InvalidDay(MarketError):
    """A day or a number is less than 0."""


class InvalidLot(MarketError):
    """A lot of days is none."""


class Quarrel(MarketError):
    """No case fits."""


class NothingToUndo(MarketError):
    """There is no note to take back."""


class Unreadable(MarketError):
    """Nothing has a text."""
