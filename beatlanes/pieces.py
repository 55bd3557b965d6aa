"""Pieces by themselves: what they cover, what they hold at a place, and the shapes that come of deeds.

A place of a shape is counted from where its piece begins; all other places are places on the steps.
"""

from beatlanes.fracs import floor_of, is_less, minus, over, plus, times


def end_of(piece):
    """The first step behind the piece."""
    return piece[2] + piece[3]


def covers(piece, place):
    """Whether the piece covers the place."""
    return piece[2] <= floor_of(place) < piece[2] + piece[3]


def content_of(clock, piece, place):
    """The content at a place, or what it would be at one that the piece doesn't cover."""
    gone = minus(_run_at(clock, piece, place), _run_at(clock, piece, (piece[2], 1)))
    return plus(piece[5], times(piece[6], gone))


def place_of_content(clock, piece, content):
    """The place at which the piece has, or would have, this content, which is not below its start."""
    gone = over(minus(content, piece[5]), piece[6])
    run = plus(_run_at(clock, piece, (piece[2], 1)), gone)
    return clock.place_at(run) if piece[4] == "free" else run


def run_of(clock, piece):
    """How far the content of a piece runs, by speed 1, from its begin to its end."""
    return minus(_run_at(clock, piece, (end_of(piece), 1)), _run_at(clock, piece, (piece[2], 1)))


def level_of(piece, place):
    """The level at a place; further out, that of the first or last corner."""
    return level_in(piece[7], minus(place, (piece[2], 1)))


def level_in(shape, place):
    """The level at a place of a shape; further out, that of its first or last corner."""
    before = shape[0]
    if not is_less(before[0], place):
        return before[1]
    for behind in shape[1:]:
        if not is_less(behind[0], place):
            if before[1] == behind[1]:
                return before[1]
            return plus(before[1], times(slope_of(before, behind), minus(place, before[0])))
        before = behind
    return before[1]


def slope_of(before, behind):
    """By how much the level goes from one corner to another one, for each step."""
    return over(minus(behind[1], before[1]), minus(behind[0], before[0]))


def plain(corners):
    """The shape of these corners, without inner ones on the straight line between those beside them."""
    kept = [corners[0]]
    for k in range(1, len(corners) - 1):
        if not _lies_between(kept[-1], corners[k], corners[k + 1]):
            kept.append(corners[k])
    return tuple(kept + [corners[-1]])


def _lies_between(before, corner, behind):
    """Whether a corner lies on the straight line between two others; all their places are unlike."""
    # Both slopes are multiplied by both widths, which needs no division.
    rise = times(minus(corner[1], before[1]), minus(behind[0], before[0]))
    whole_rise = times(minus(behind[1], before[1]), minus(corner[0], before[0]))
    return rise == whole_rise


def shape_between(shape, begin, end):
    """What of a shape lies between two of its places, or would lie there, with the first one as its place 0."""
    inner = [corner for corner in shape if is_less(begin, corner[0]) and is_less(corner[0], end)]
    corners = [(begin, level_in(shape, begin))] + inner + [(end, level_in(shape, end))]
    return plain([(minus(place, begin), level) for place, level in corners])


def moved_by(piece, by):
    """The piece moved by so many steps."""
    return piece[:2] + (piece[2] + by,) + piece[3:]


def trimmed(clock, piece, begin, end):
    """The piece from one step up to another one instead, with the content and the levels that it would have there."""
    # Ahead of step 0 there are no moments; what would begin there is refused, whatever its start.
    start = content_of(clock, piece, (max(begin, 0), 1))
    shape = shape_between(piece[7], (begin - piece[2], 1), (end - piece[2], 1))
    return piece[:2] + (begin, end - begin, piece[4], start, piece[6], shape)


def _run_at(clock, piece, place):
    """By what the content goes on: moments where the piece is free, steps where it is bound."""
    return clock.moment_at(place) if piece[4] == "free" else place
