"""Cutting a piece in two, and gluing two to one.

Each deed is there twice: by its own name, for whatever is handed in as a sheet, and below for what surely is one.
"""

from beatlanes.errors import NoGlue, NoPiece, NoStep, Taken
from beatlanes.fracs import is_whole, is_whole_within, plus
from beatlanes.pieces import content_of, end_of, level_of, plain, trimmed
from beatlanes.sheets import MOST_NUMBER
from beatlanes.spots import fitting, numbers_of, piece_at, piece_spot, refuse_no_sheet, with_instead, with_pieces
from beatlanes.tempo import Clock


def cut(sheet, n, step, new):
    """A piece parted at a step within it; the second part has a new number and stands right above the first."""
    refuse_no_sheet(sheet)
    return cut_in_two(sheet, n, step, new)


def glue(sheet, n, second):
    """A piece joined with the one right above it that goes on just as it would."""
    refuse_no_sheet(sheet)
    return glued(sheet, n, second)


def cut_in_two(sheet, n, step, new):
    """What cut tells of a sheet."""
    spot = piece_spot(sheet, n)
    piece = piece_at(sheet, spot)
    if not is_whole(step) or not piece[2] < step < end_of(piece):
        raise NoStep("a piece is cut at a step within it")
    refuse_no_number(new)
    if new in numbers_of(sheet):
        raise Taken("a piece has the new number")
    return fitting(with_instead(sheet, spot, parted(Clock(sheet[0]), piece, step, new)))


def glued(sheet, n, second):
    """What glue tells of a sheet."""
    k, j = piece_spot(sheet, n)
    other_k, other_j = piece_spot(sheet, second)
    pieces = sheet[2][k][3]
    if (other_k, other_j) != (k, j + 1) or not _goes_on(Clock(sheet[0]), pieces[j], pieces[j + 1]):
        raise NoGlue("the second piece doesn't go on where the first one ends")
    joined = _joined(pieces[j], pieces[j + 1])
    return fitting(with_pieces(sheet, k, pieces[:j] + (joined,) + pieces[j + 2:]))


def refuse_no_number(new):
    """NoPiece of what is no number that a piece may have."""
    if not is_whole_within(new, 1, MOST_NUMBER):
        raise NoPiece("the new number is no number of a piece")


def parted(clock, piece, step, new):
    """The two parts of a piece that is cut at a step, the second one with a new number."""
    second = trimmed(clock, piece, step, end_of(piece))
    return (trimmed(clock, piece, piece[2], step), (new,) + second[1:])


def _goes_on(clock, piece, other):
    """Whether the other piece is what the first one would be behind its end."""
    if other[2] != end_of(piece) or (other[1], other[4], other[6]) != (piece[1], piece[4], piece[6]):
        return False
    end = (end_of(piece), 1)
    return other[5] == content_of(clock, piece, end) and other[7][0][1] == level_of(piece, end)


def _joined(piece, other):
    """One piece that covers what two cover, the other one going on where the first one ends."""
    n, take, at, many, way, start, speed, shape = piece
    behind = [(plus(place, (many, 1)), level) for place, level in other[7][1:]]
    return (n, take, at, many + other[3], way, start, speed, plain(list(shape) + behind))
