"""Shaping: pieces stretched, made free or bound, faded, made louder.

Each deed is there twice: by its own name, for whatever is handed in as a sheet, and below for what surely is one.
"""

from beatlanes.errors import NoFar, NoLevel, NoSide, NoStep
from beatlanes.fracs import NOUGHT, is_above_nought, is_from_nought, is_less, is_whole, minus, over, times
from beatlanes.pieces import level_in, plain, run_of
from beatlanes.spots import fitting, piece_at, piece_spot, refuse_no_sheet, with_instead
from beatlanes.tempo import Clock

SIDES = ("in", "out")


def stretch_to(sheet, n, many):
    """A piece that has so many steps, from where it begins on, with the same content at both ends."""
    refuse_no_sheet(sheet)
    return stretched(sheet, n, many)


def turn_over(sheet, n):
    """A free piece made bound, or a bound one free, with the same content at both ends."""
    refuse_no_sheet(sheet)
    return turned(sheet, n)


def fade(sheet, n, side, far):
    """A piece that begins or ends at level 0, straight to or from the level that it has so far from there."""
    refuse_no_sheet(sheet)
    return faded(sheet, n, side, far)


def louder(sheet, n, by):
    """A piece with all its levels taken so many times."""
    refuse_no_sheet(sheet)
    return made_louder(sheet, n, by)


def stretched(sheet, n, many):
    """What stretch_to tells of a sheet."""
    spot = piece_spot(sheet, n)
    if not is_whole(many) or many < 1:
        raise NoStep("a piece has a whole number of steps, from 1 on")
    piece = piece_at(sheet, spot)
    wider = over((many, 1), (piece[3], 1))
    shape = tuple([(times(place, wider), level) for place, level in piece[7]])
    changed = piece[:3] + (many,) + piece[4:7] + (shape,)
    return fitting(with_instead(sheet, spot, (_with_run_of(Clock(sheet[0]), piece, changed),)))


def turned(sheet, n):
    """What turn_over tells of a sheet."""
    spot = piece_spot(sheet, n)
    piece = piece_at(sheet, spot)
    way = "bound" if piece[4] == "free" else "free"
    changed = piece[:4] + (way,) + piece[5:]
    return fitting(with_instead(sheet, spot, (_with_run_of(Clock(sheet[0]), piece, changed),)))


def faded(sheet, n, side, far):
    """What fade tells of a sheet."""
    spot = piece_spot(sheet, n)
    piece = piece_at(sheet, spot)
    if side not in SIDES:
        raise NoSide("a piece is faded in or out")
    if not is_above_nought(far) or is_less((piece[3], 1), far):
        raise NoFar("a piece is faded over a fraction above 0 and not above its steps")
    shape = _faded_in(piece[7], far) if side == "in" else _faded_out(piece[7], far)
    return fitting(with_instead(sheet, spot, (piece[:7] + (shape,),)))


def made_louder(sheet, n, by):
    """What louder tells of a sheet."""
    spot = piece_spot(sheet, n)
    if not is_from_nought(by):
        raise NoLevel("levels are taken a fraction from 0 on times")
    piece = piece_at(sheet, spot)
    shape = plain([(place, times(level, by)) for place, level in piece[7]])
    return fitting(with_instead(sheet, spot, (piece[:7] + (shape,),)))


def _with_run_of(clock, piece, changed):
    """The changed piece by the speed at which its content goes just as far as that of the piece."""
    speed = over(times(piece[6], run_of(clock, piece)), run_of(clock, changed))
    return changed[:6] + (speed, changed[7])


def _faded_in(shape, far):
    behind = [corner for corner in shape if is_less(far, corner[0])]
    return plain([(NOUGHT, NOUGHT), (far, level_in(shape, far))] + behind)


def _faded_out(shape, far):
    end = shape[-1][0]
    begin = minus(end, far)
    ahead = [corner for corner in shape if is_less(corner[0], begin)]
    return plain(ahead + [(begin, level_in(shape, begin)), (end, NOUGHT)])
