"""What is heard: of a piece, of a lane, of all, at places and at moments."""

from beatlanes.errors import NoCount, NoMoment
from beatlanes.fracs import NOUGHT, floor_of, is_above_nought, is_whole_within, plus, times
from beatlanes.pieces import content_of, covers, end_of, level_of
from beatlanes.spots import lane_spot, piece_at, piece_spot, refuse_no_sheet
from beatlanes.tempo import Clock, refuse_no_moment, refuse_no_place

MOST_MOMENTS = 400


def content_at(sheet, n, place):
    """The content of a piece at a place, None where the piece doesn't cover it."""
    piece = _piece_asked(sheet, n, place)
    return content_of(Clock(sheet[0]), piece, place) if covers(piece, place) else None


def level_at(sheet, n, place):
    """The level of a piece at a place, None where the piece doesn't cover it."""
    piece = _piece_asked(sheet, n, place)
    return level_of(piece, place) if covers(piece, place) else None


def sound_at(sheet, n, place):
    """The sound of a piece at a place, 0 outside of what the piece covers."""
    piece = _piece_asked(sheet, n, place)
    return _sound_of(Clock(sheet[0]), dict(sheet[1]), piece, place) if covers(piece, place) else NOUGHT


def lane_at(sheet, lane, place):
    """The sound of a lane at a place."""
    refuse_no_sheet(sheet)
    k = lane_spot(sheet, lane)
    refuse_no_place(place)
    return _sound_of_lane(Clock(sheet[0]), dict(sheet[1]), sheet[2][k], place)


def heard_at(sheet, place):
    """What is heard at a place: the sum of all lanes' sounds."""
    refuse_no_sheet(sheet)
    refuse_no_place(place)
    return _sum_at(Clock(sheet[0]), dict(sheet[1]), sheet[2], place)


def heard(sheet, moment):
    """What is heard at a moment."""
    refuse_no_sheet(sheet)
    refuse_no_moment(moment)
    clock = Clock(sheet[0])
    return _sum_at(clock, dict(sheet[1]), sheet[2], clock.place_at(moment))


def played(sheet, first, step, count):
    """What is heard at so many moments, the first one and each a step later."""
    refuse_no_sheet(sheet)
    refuse_no_moment(first)
    if not is_above_nought(step):
        raise NoMoment("from one moment to the next one goes a fraction above 0")
    if not is_whole_within(count, 1, MOST_MOMENTS):
        raise NoCount("so many moments are not played at once")
    clock = Clock(sheet[0])
    takes = dict(sheet[1])
    moments = [plus(first, times((k, 1), step)) for k in range(count)]
    return [_sum_at(clock, takes, sheet[2], clock.place_at(moment)) for moment in moments]


def runs_of(sheet, lane):
    """The runs of a lane: (from, to, n), the spans of steps over which one piece is the highest."""
    refuse_no_sheet(sheet)
    pieces = sheet[2][lane_spot(sheet, lane)][3]
    return [(begin, end, piece[0]) for begin, end, piece in runs_among(pieces)]


def runs_among(pieces):
    """The runs of pieces of one lane, the lowest first, with the pieces themselves: (from, to, piece)."""
    borders = sorted({step for piece in pieces for step in (piece[2], end_of(piece))})
    runs = []
    for begin, end in zip(borders, borders[1:]):
        piece = _highest(pieces, begin)
        if piece is None:
            continue
        # A piece covers all between two of its steps, so where it was the last one heard there is no gap.
        if runs and runs[-1][2][0] == piece[0]:
            begin = runs.pop()[0]
        runs.append((begin, end, piece))
    return runs


def _piece_asked(sheet, n, place):
    refuse_no_sheet(sheet)
    spot = piece_spot(sheet, n)
    refuse_no_place(place)
    return piece_at(sheet, spot)


def _highest(pieces, step):
    """The highest piece that covers the step, None where none does."""
    for piece in reversed(pieces):
        if piece[2] <= step < piece[2] + piece[3]:
            return piece
    return None


def _sum_at(clock, takes, lanes, place):
    total = NOUGHT
    for lane in lanes:
        sound = _sound_of_lane(clock, takes, lane, place)
        if sound != NOUGHT:
            total = plus(total, sound)
    return total


def _sound_of_lane(clock, takes, lane, place):
    _, gain, silent, pieces = lane
    # Pieces begin and end at steps, so all of a step is covered by the same ones.
    piece = _highest(pieces, floor_of(place)) if silent == 0 else None
    if piece is None:
        return NOUGHT
    return times(gain, _sound_of(clock, takes, piece, place))


def _sound_of(clock, takes, piece, place):
    """The sound of a piece at a place that it covers."""
    tones = takes[piece[1]]
    number = floor_of(content_of(clock, piece, place))
    if number >= len(tones):
        return NOUGHT
    return times((tones[number], 1), level_of(piece, place))
