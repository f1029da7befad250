"""The refusals of the program, one class for each."""


class FloorError(ValueError):
    """Any refusal."""


class NoWeb(FloorError):
    """What was handed in makes no web."""


class NoOrder(FloorError):
    """What was handed in makes no order of the web."""


class NoNumber(FloorError):
    """What was handed in is the number of no order."""


class NoEnd(FloorError):
    """What was handed in is no corner."""


class NoTie(FloorError):
    """What was handed in is the number of no tie that is asked for."""


class NoPlace(FloorError):
    """What was handed in is no place of the web."""


class NoTable(FloorError):
    """What was handed in is no table of faces."""


class NoRing(FloorError):
    """The web has no ring."""


class NoPaper(FloorError):
    """What was handed in is no right paper."""


class Apart(FloorError):
    """The web has several parts."""


class TooMany(FloorError):
    """There are too many orders to go through."""


class TooGreat(FloorError):
    """There would be too many places or ties."""


class NoText(FloorError):
    """What was handed in is no floor's text; row is the first one that can't stand, from 1."""

    def __init__(self, row):
        self.row = row


class NoName(FloorError):
    """No floor is kept by the name."""


class NoRow(FloorError):
    """What was told is no row of a desk."""
