"""Ripples: spans of steps cut out and gaps opened, all that lies behind moving along.

Each deed is there twice: by its own name, for whatever is handed in as a sheet, and below for what surely is one.
"""

from beatlanes.cutting import refuse_no_number
from beatlanes.errors import NoStep, Taken
from beatlanes.fracs import is_whole_within
from beatlanes.paces import plain_tempo, refuse_no_steps, stretches_ahead, stretches_behind, stretches_between
from beatlanes.pieces import end_of, moved_by, trimmed
from beatlanes.sheets import MOST_END, MOST_NUMBER
from beatlanes.spots import fitting, lane_spot, numbers_of, refuse_no_sheet
from beatlanes.tempo import Clock


def cut_out(sheet, lane, begin, end, new):
    """The steps from begin up to end taken out of a lane, or, by None, of all lanes and the tempo."""
    refuse_no_sheet(sheet)
    return with_cut_out(sheet, lane, begin, end, new)


def open_gap(sheet, lane, at, many, new):
    """So many steps opened at a step in a lane, or, by None, in all lanes and the tempo."""
    refuse_no_sheet(sheet)
    return with_gap(sheet, lane, at, many, new)


def with_cut_out(sheet, lane, begin, end, new):
    """What cut_out tells of a sheet."""
    meant = _lanes_meant(sheet, lane)
    refuse_no_steps(begin, end, MOST_END)
    refuse_no_number(new)
    clock = Clock(sheet[0])
    made = _with_parts(sheet, meant, new, lambda piece: _left_of(clock, piece, begin, end))
    if lane is None:
        made = _with_stretches(made, stretches_ahead(sheet[0], begin) + stretches_behind(sheet[0], end))
    return made


def with_gap(sheet, lane, at, many, new):
    """What open_gap tells of a sheet."""
    meant = _lanes_meant(sheet, lane)
    if not is_whole_within(at, 0, MOST_END):
        raise NoStep("a gap is opened at a step that there is, or behind the last one")
    if not is_whole_within(many, 1, MOST_END):
        raise NoStep("so many steps are not opened")
    refuse_no_number(new)
    clock = Clock(sheet[0])
    made = _with_parts(sheet, meant, new, lambda piece: _moved_from(clock, piece, at, many))
    if lane is None:
        # The new steps all last what the line of lengths tells just where they are opened.
        long = stretches_between(sheet[0], at, at + 1)[0][1]
        gap = [(many, long, long)]
        made = _with_stretches(made, stretches_ahead(sheet[0], at) + gap + stretches_behind(sheet[0], at))
    return made


def _lanes_meant(sheet, lane):
    """The numbers of the lanes that a name means, all by None; NoLane where no lane has it."""
    if lane is None:
        return list(range(len(sheet[2])))
    return [lane_spot(sheet, lane)]


def _left_of(clock, piece, begin, end):
    """What of a piece is left where the steps from begin up to end are cut out, moved along."""
    last = end_of(piece)
    if last <= begin:
        return [piece]
    if piece[2] >= end:
        return [moved_by(piece, begin - end)]
    parts = []
    if piece[2] < begin:
        parts.append(trimmed(clock, piece, piece[2], begin))
    if last > end:
        parts.append(moved_by(trimmed(clock, piece, end, last), begin - end))
    return parts


def _moved_from(clock, piece, at, many):
    """The parts of a piece where so many steps are opened at a step, moved along."""
    if end_of(piece) <= at:
        return [piece]
    if piece[2] >= at:
        return [moved_by(piece, many)]
    return [trimmed(clock, piece, piece[2], at), moved_by(trimmed(clock, piece, at, end_of(piece)), many)]


def _with_parts(sheet, meant, new, parts_of):
    """The sheet with its parts in place of each piece of the lanes meant, a second one with the next new number."""
    numbers = numbers_of(sheet)
    lanes = list(sheet[2])
    for k in meant:
        pieces = []
        for piece in lanes[k][3]:
            parts = parts_of(piece)
            if len(parts) == 2:
                if new in numbers or new > MOST_NUMBER:
                    raise Taken("a piece has a new number that is needed, or it is no number")
                parts[1] = (new,) + parts[1][1:]
                new += 1
            pieces.extend(parts)
        lanes[k] = lanes[k][:3] + (tuple(pieces),)
    return fitting((sheet[0], sheet[1], tuple(lanes)))


def _with_stretches(sheet, stretches):
    """The sheet with other stretches; TooMany where a tempo may not have them."""
    return (plain_tempo(stretches, sheet[0][1]),) + sheet[1:]
