"""Grains: the spans over which a piece has one tone, and the loudest that pieces and lanes come to."""

from beatlanes.fracs import NOUGHT, floor_of, greatest, is_less, least, minus, plus, times
from beatlanes.heard import runs_among
from beatlanes.pieces import content_of, end_of, place_of_content, slope_of
from beatlanes.spots import lane_spot, piece_at, piece_spot, refuse_no_sheet
from beatlanes.tempo import Clock


def grains_of(sheet, n):
    """The grains of a piece: (place, number, tone), from where on it has which tone of its take."""
    refuse_no_sheet(sheet)
    piece = piece_at(sheet, piece_spot(sheet, n))
    tones = dict(sheet[1])[piece[1]]
    grains = _grains_between(Clock(sheet[0]), len(tones), piece, (piece[2], 1), (end_of(piece), 1))
    return [(begin, number, tones[number]) for begin, _, number in grains]


def loudest(sheet, n):
    """The greatest that the sound of a piece, without its sign, comes to or near to."""
    refuse_no_sheet(sheet)
    piece = piece_at(sheet, piece_spot(sheet, n))
    tones = dict(sheet[1])[piece[1]]
    return _loudest_between(Clock(sheet[0]), tones, piece, (piece[2], 1), (end_of(piece), 1))


def loudest_lane(sheet, lane):
    """The greatest that the sound of a lane, without its sign, comes to or near to."""
    refuse_no_sheet(sheet)
    _, gain, silent, pieces = sheet[2][lane_spot(sheet, lane)]
    if silent == 1:
        return NOUGHT
    clock = Clock(sheet[0])
    takes = dict(sheet[1])
    found = NOUGHT
    for begin, end, piece in runs_among(pieces):
        by_run = _loudest_between(clock, takes[piece[1]], piece, (begin, 1), (end, 1))
        found = greatest([found, by_run])
    return times(gain, found)


def lines_between(clock, tones, piece, begin, end):
    """The spans, from one place up to a later one, over which the piece has one tone and a straight level.

    They are told as (from, to, tone, height, rise): at each place of the span the level is height and so many
    times the place as rise tells.
    """
    spans = _straight_spans(piece, begin, end)
    lines = []
    k = 0
    for here, there, number in _grains_between(clock, len(tones), piece, begin, end):
        while here != there:
            last, height, rise = spans[k]
            if is_less(there, last):
                last = there
            else:
                k += 1
            lines.append((here, last, tones[number], height, rise))
            here = last
    return lines


def _straight_spans(piece, begin, end):
    """The spans, side by side from one place to another one, over which the level is straight: (to, height, rise)."""
    at = (piece[2], 1)
    spans = []
    before = piece[7][0]
    for behind in piece[7][1:]:
        last = plus(at, behind[0])
        if is_less(begin, last):
            rise = slope_of(before, behind)
            height = minus(before[1], times(rise, plus(at, before[0])))
            spans.append((least([last, end]), height, rise))
            if not is_less(last, end):
                break
        before = behind
    return spans


def _grains_between(clock, many, piece, begin, end):
    """The grains of a piece of a take of so many tones between two places: (from, to, number)."""
    first = floor_of(content_of(clock, piece, begin))
    last = content_of(clock, piece, end)
    grains = []
    here = begin
    for number in range(first, many):
        if not is_less((number, 1), last):
            break
        there = end
        if is_less((number + 1, 1), last):
            there = place_of_content(clock, piece, (number + 1, 1))
        grains.append((here, there, number))
        here = there
    return grains


def _loudest_between(clock, tones, piece, begin, end):
    found = NOUGHT
    for here, there, tone, height, rise in lines_between(clock, tones, piece, begin, end):
        level = height
        if rise != NOUGHT:
            # It is greatest where the line is highest, at one of its ends.
            level = plus(height, times(rise, there if rise[0] > 0 else here))
        found = greatest([found, times((abs(tone), 1), level)])
    return found
