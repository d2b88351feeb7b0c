"""The refusals: each kind of failure has a class of its own under RideError."""


class RideError(ValueError):
    """Any refusal."""


class NoWeb(RideError):
    """What was handed in is no web."""


class NoPlace(RideError):
    """The web has no such place."""


class NoCompany(RideError):
    """What was handed in is no company that may stand there."""


class NoLine(RideError):
    """The web has no such line."""


class NoEnd(RideError):
    """The web has no such end of a line."""


class NoRide(RideError):
    """What was handed in is no ride, or no round where a round is asked for."""


class NoNumber(RideError):
    """The ride has no such place in its list."""


class NoTurning(RideError):
    """What was handed in is no turning of the round."""


class TooMany(RideError):
    """There are more rounds than are told."""


class NoText(RideError):
    """A line of the text is of no form; `line` tells which, from 1 on."""

    def __init__(self, line):
        self.line = line


class NoForm(RideError):
    """The row is of no form."""


class NoneYet(RideError):
    """Nothing is left to be undone."""
