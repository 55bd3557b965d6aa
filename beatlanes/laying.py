"""Laying: pieces put on lanes, taken out, moved and trimmed. Each deed tells the sheet that comes of it.

Each deed is there twice: by its own name, for whatever is handed in as a sheet, and below for what surely is one.
"""

from beatlanes.errors import NoPiece, NoRank, NoStep, NoTake, Taken
from beatlanes.fracs import is_whole, is_whole_within
from beatlanes.pieces import moved_by, trimmed
from beatlanes.sheets import is_piece
from beatlanes.spots import at_rank, fitting, lane_spot, numbers_of, piece_at, piece_spot, refuse_no_sheet
from beatlanes.spots import with_instead, with_on_top, with_pieces
from beatlanes.tempo import Clock


def lay(sheet, lane, piece):
    """A piece put on top of a lane."""
    refuse_no_sheet(sheet)
    return laid(sheet, lane, piece)


def lift(sheet, n):
    """A piece taken out."""
    refuse_no_sheet(sheet)
    return lifted(sheet, n)


def move(sheet, n, by):
    """A piece moved by so many steps."""
    refuse_no_sheet(sheet)
    return moved(sheet, n, by)


def shift(sheet, n, lane):
    """A piece put on top of a lane."""
    refuse_no_sheet(sheet)
    return shifted(sheet, n, lane)


def raise_to(sheet, n, rank):
    """A piece given another rank in its lane, 0 being the lowest one."""
    refuse_no_sheet(sheet)
    return raised(sheet, n, rank)


def trim(sheet, n, begin, end):
    """A piece that covers other steps, from begin up to end, with what it holds there."""
    refuse_no_sheet(sheet)
    return trimmed_to(sheet, n, begin, end)


def laid(sheet, lane, piece):
    """What lay tells of a sheet."""
    k = lane_spot(sheet, lane)
    if not is_piece(piece):
        raise NoPiece("it is no piece")
    if piece[1] not in [take[0] for take in sheet[1]]:
        raise NoTake("no take has the name that the piece tells")
    if piece[0] in numbers_of(sheet):
        raise Taken("a piece has this number")
    return fitting(with_on_top(sheet, k, piece))


def lifted(sheet, n):
    """What lift tells of a sheet."""
    return with_instead(sheet, piece_spot(sheet, n), ())


def moved(sheet, n, by):
    """What move tells of a sheet."""
    spot = piece_spot(sheet, n)
    if not is_whole(by):
        raise NoStep("a piece is moved by a whole number of steps")
    return fitting(with_instead(sheet, spot, (moved_by(piece_at(sheet, spot), by),)))


def shifted(sheet, n, lane):
    """What shift tells of a sheet."""
    spot = piece_spot(sheet, n)
    k = lane_spot(sheet, lane)
    return with_on_top(with_instead(sheet, spot, ()), k, piece_at(sheet, spot))


def raised(sheet, n, rank):
    """What raise_to tells of a sheet."""
    k, j = piece_spot(sheet, n)
    pieces = sheet[2][k][3]
    if not is_whole_within(rank, 0, len(pieces) - 1):
        raise NoRank("a rank is a whole number from 0 to how many others there are")
    return with_pieces(sheet, k, at_rank(pieces, j, rank))


def trimmed_to(sheet, n, begin, end):
    """What trim tells of a sheet."""
    spot = piece_spot(sheet, n)
    if not is_whole(begin) or not is_whole(end) or begin >= end:
        raise NoStep("a piece covers steps from a whole number up to a greater one")
    piece = trimmed(Clock(sheet[0]), piece_at(sheet, spot), begin, end)
    return fitting(with_instead(sheet, spot, (piece,)))
