"""Where things are in a sheet, and sheets with something else there.

The spot of a piece is (k, j): it is the piece j of the lane k, both counted from 0.
"""

from beatlanes.errors import NoLane, NoPiece, NoPlace, NoSheet, TooMany
from beatlanes.fracs import is_whole
from beatlanes.pieces import end_of
from beatlanes.sheets import MOST_CORNERS, MOST_END, MOST_PIECES, fault_of


def refuse_no_sheet(thing):
    """NoSheet of what is no sheet."""
    if fault_of(thing) is not None:
        raise NoSheet("it is no sheet")


def lane_spot(sheet, name):
    """Which lane has the name, counted from 0; NoLane where none has."""
    for k, lane in enumerate(sheet[2]):
        if lane[0] == name:
            return k
    raise NoLane("no lane has this name")


def piece_spot(sheet, n):
    """The spot of the piece with the number; NoPiece where none has it."""
    # True and 1 are equal, but only one of them is a number.
    if is_whole(n):
        for k, lane in enumerate(sheet[2]):
            for j, piece in enumerate(lane[3]):
                if piece[0] == n:
                    return (k, j)
    raise NoPiece("no piece has this number")


def piece_at(sheet, spot):
    """The piece at a spot."""
    return sheet[2][spot[0]][3][spot[1]]


def pieces_of(sheet):
    """All pieces, lane by lane, the lowest first."""
    return [piece for lane in sheet[2] for piece in lane[3]]


def numbers_of(sheet):
    """The numbers of all pieces."""
    return [piece[0] for piece in pieces_of(sheet)]


def with_lane(sheet, k, lane):
    """The sheet with another lane in place of one."""
    tempo, takes, lanes = sheet
    return (tempo, takes, lanes[:k] + (lane,) + lanes[k + 1:])


def with_pieces(sheet, k, pieces):
    """The sheet with just these pieces in a lane."""
    return with_lane(sheet, k, sheet[2][k][:3] + (pieces,))


def with_instead(sheet, spot, pieces):
    """The sheet with so many pieces, one right above the other, in place of the one at a spot."""
    k, j = spot
    there = sheet[2][k][3]
    return with_pieces(sheet, k, there[:j] + pieces + there[j + 1:])


def with_on_top(sheet, k, piece):
    """The sheet with one more piece, on top of a lane."""
    return with_pieces(sheet, k, sheet[2][k][3] + (piece,))


def at_rank(things, k, rank):
    """The same things, the one with the number k moved to this rank among the others."""
    others = things[:k] + things[k + 1:]
    return others[:rank] + (things[k],) + others[rank:]


def fitting(sheet):
    """The sheet that came of a deed; TooMany, then NoPlace, where it is beyond what a sheet may be."""
    pieces = pieces_of(sheet)
    if len(pieces) > MOST_PIECES or any([len(piece[7]) > MOST_CORNERS for piece in pieces]):
        raise TooMany("more pieces, or corners of a shape, than there may be")
    for piece in pieces:
        if piece[2] < 0 or end_of(piece) > MOST_END or piece[5][0] < 0:
            raise NoPlace("a piece would begin ahead of all, end beyond the last step, or start below 0")
    return sheet
