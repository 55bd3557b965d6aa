"""Rows: spans of time over which what is heard goes straight, and where two sheets are heard otherwise."""

from beatlanes.errors import NoMoment
from beatlanes.fracs import NOUGHT, floor_of, greatest, is_from_nought, is_less, least, minus, over, plus, rising, times
from beatlanes.grains import lines_between
from beatlanes.heard import runs_among
from beatlanes.spots import refuse_no_sheet
from beatlanes.tempo import Clock

MOST_PLACE = 200000
MOST_SPAN = 400


def rows_heard(sheet, first, last):
    """What is heard from a moment to a later one: (from, to, first, last), as few rows as can be."""
    refuse_no_sheet(sheet)
    _refuse_no_span(sheet, first, last)
    return _rows_of(sheet, first, last)


def unlike(one, other, first, last):
    """The spans (from, to) between two moments in which something else is heard of two sheets."""
    refuse_no_sheet(one)
    refuse_no_sheet(other)
    _refuse_no_span(one, first, last)
    _refuse_no_span(other, first, last)
    rows = _rows_of(one, first, last)
    others = _rows_of(other, first, last)
    spans = []
    j = 0
    k = 0
    # Both end at the same moment, so the others last as long as the rows do.
    while j < len(rows):
        begin = greatest([rows[j][0], others[k][0]])
        end = least([rows[j][1], others[k][1]])
        if not _are_alike(rows[j], others[k], begin, end):
            if spans and spans[-1][1] == begin:
                begin = spans.pop()[0]
            spans.append((begin, end))
        if rows[j][1] == end:
            j += 1
        if others[k][1] == end:
            k += 1
    return spans


def _refuse_no_span(sheet, first, last):
    """NoMoment of what are no two moments, the second one later, between which rows may be told."""
    if not is_from_nought(first) or not is_from_nought(last) or not is_less(first, last):
        raise NoMoment("rows go from a moment to a later one")
    clock = Clock(sheet[0])
    begin = clock.place_at(first)
    end = clock.place_at(last)
    if floor_of(end) >= MOST_PLACE or is_less((MOST_SPAN, 1), minus(end, begin)):
        raise NoMoment("the places of these moments are too late, or too far from one another")


def _rows_of(sheet, first, last):
    clock = Clock(sheet[0])
    begin = clock.place_at(first)
    end = clock.place_at(last)
    bends = _bends_of(_lines_heard(clock, sheet, begin, end))
    # Time goes evenly within a step alone, so what goes straight over places is parted at the steps.
    steps = [(step, 1) for step in range(floor_of(begin) + 1, floor_of(end) + 1)]
    places = rising([begin, end] + steps + list(bends))
    height = NOUGHT
    rise = NOUGHT
    rows = []
    moment = first
    for here, there in zip(places, places[1:]):
        if here in bends:
            height = plus(height, bends[here][0])
            rise = plus(rise, bends[here][1])
        later = clock.moment_at(there)
        _put_behind(rows, (moment, later, _height_on(height, rise, here), _height_on(height, rise, there)))
        moment = later
    return rows


def _lines_heard(clock, sheet, begin, end):
    """What is heard of each lane between two places: (from, to, height, rise), for each straight line."""
    takes = dict(sheet[1])
    lines = []
    for _, gain, silent, pieces in sheet[2]:
        runs = runs_among(pieces) if silent == 0 else []
        for run_begin, run_end, piece in runs:
            first = greatest([begin, (run_begin, 1)])
            last = least([end, (run_end, 1)])
            if not is_less(first, last):
                continue
            for here, there, tone, height, rise in lines_between(clock, takes[piece[1]], piece, first, last):
                loud = times(gain, (tone, 1))
                lines.append((here, there, times(loud, height), times(loud, rise)))
    return lines


def _bends_of(lines):
    """By how much height and rise of the sum of all lines change, and at which places."""
    bends = {}
    for here, there, height, rise in lines:
        was = bends.get(here, (NOUGHT, NOUGHT))
        bends[here] = (plus(was[0], height), plus(was[1], rise))
        was = bends.get(there, (NOUGHT, NOUGHT))
        bends[there] = (minus(was[0], height), minus(was[1], rise))
    return bends


def _height_on(height, rise, place):
    """What a line tells at a place."""
    return height if rise == NOUGHT else plus(height, times(rise, place))


def _put_behind(rows, row):
    """Puts a row behind the others, as one with the last of them where both are one straight line."""
    if rows and rows[-1][3] == row[2] and _slope_of(rows[-1]) == _slope_of(row):
        before = rows.pop()
        row = (before[0], row[1], before[2], row[3])
    rows.append(row)


def _slope_of(row):
    """By how much what is heard goes on in each moment of a row."""
    begin, end, first, last = row
    if first == last:
        return NOUGHT
    return over(minus(last, first), minus(end, begin))


def _are_alike(row, other, begin, end):
    """Whether two rows tell the same from one moment to another one that both hold."""
    if _height_at(row, begin) != _height_at(other, begin):
        return False
    return _height_at(row, end) == _height_at(other, end)


def _height_at(row, moment):
    """What a row tells at a moment from its begin to its end."""
    if moment == row[0]:
        return row[2]
    if moment == row[1]:
        return row[3]
    return plus(row[2], times(_slope_of(row), minus(moment, row[0])))
