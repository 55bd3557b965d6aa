"""The refusals: each has a class of its own, straight under LaneError."""


class LaneError(ValueError):
    """What all refusals stand under."""


class NoFraction(LaneError):
    """It makes no fraction."""


class NoTempo(LaneError):
    """It is no tempo."""


class NoStep(LaneError):
    """It is no step, no count of steps or no span of steps that may be told here."""


class NoPlace(LaneError):
    """It is no place, or a piece would lie beyond the places that there are."""


class NoMoment(LaneError):
    """It is no moment, or none that may be told here."""


class NoCount(LaneError):
    """It is no count of moments that may be told here."""


class NoSheet(LaneError):
    """It is no sheet."""


class NoLane(LaneError):
    """It is no name of a lane that is there."""


class NoPiece(LaneError):
    """It is no piece, or no number of a piece that is there."""


class NoTake(LaneError):
    """It is no take, or no name of a take that is there."""


class NoName(LaneError):
    """It is no name."""


class NoRank(LaneError):
    """It is no rank that may be told here."""


class NoLevel(LaneError):
    """It is no gain, silent or level."""


class NoLong(LaneError):
    """It is no length of a step."""


class NoSide(LaneError):
    """It is no side of a piece."""


class NoFar(LaneError):
    """A fade does not go so far."""


class NoGlue(LaneError):
    """The two pieces do not go on as one."""


class Taken(LaneError):
    """The name or number is there already."""


class TooMany(LaneError):
    """There would be more than there may be."""


class Used(LaneError):
    """Pieces still lie there, or are still of it."""


class NoDeed(LaneError):
    """It is no deed."""


class NoNumber(LaneError):
    """It is no number of such a deed."""


class Full(LaneError):
    """No more deeds or versions are kept."""


class Leaned(LaneError):
    """Other deeds lean on it: their numbers."""

    def __init__(self, numbers):
        self.numbers = numbers


class NoVersion(LaneError):
    """It is no name of a version that is kept."""


class NoText(LaneError):
    """It is no text that is so written: the first row that is not."""

    def __init__(self, row):
        self.row = row


class NoRow(LaneError):
    """It is no row that a desk may be told."""
