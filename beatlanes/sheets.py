"""Takes, shapes, pieces, lanes and sheets: whether things are such, and what is wrong with a sheet."""

from beatlanes.fracs import NOUGHT, is_above_nought, is_from_nought, is_less
from beatlanes.fracs import is_tuple_of, is_whole, is_whole_within, minus, times
from beatlanes.tempo import is_tempo

MOST_SIGNS = 8
MOST_TONES = 200
MOST_TONE = 100000
MOST_CORNERS = 12
MOST_NUMBER = 99999
MOST_END = 100000
MOST_TAKES = 12
MOST_LANES = 12
MOST_PIECES = 60
WAYS = ("free", "bound")


def is_name(thing):
    """Whether it is a name."""
    if not isinstance(thing, str) or not 1 <= len(thing) <= MOST_SIGNS:
        return False
    return all(["a" <= sign <= "z" for sign in thing])


def is_take(thing):
    """Whether it is a take (name, tones); it may be anything."""
    if not is_tuple_of(thing, 2):
        return False
    return is_name(thing[0]) and is_tones(thing[1])


def is_tones(thing):
    """Whether it is what a take has as its tones."""
    if not isinstance(thing, tuple) or not 1 <= len(thing) <= MOST_TONES:
        return False
    return all([is_whole_within(tone, -MOST_TONE, MOST_TONE) for tone in thing])


def is_shape(thing):
    """Whether it is a shape, a tuple of corners (place, level); it may be anything."""
    if not isinstance(thing, tuple) or not 2 <= len(thing) <= MOST_CORNERS:
        return False
    if not all([_is_corner(corner) for corner in thing]):
        return False
    if not all([is_less(thing[k - 1][0], thing[k][0]) for k in range(1, len(thing))]):
        return False
    inner = range(1, len(thing) - 1)
    return not any([lies_between(thing[k - 1], thing[k], thing[k + 1]) for k in inner])


def lies_between(before, corner, behind):
    """Whether a corner lies on the straight line between two others; all their places are unlike."""
    # Both slopes are multiplied by both widths, which needs no division.
    rise = times(minus(corner[1], before[1]), minus(behind[0], before[0]))
    whole_rise = times(minus(behind[1], before[1]), minus(corner[0], before[0]))
    return rise == whole_rise


def is_piece(thing):
    """Whether it is a piece (n, take, at, many, way, start, speed, shape); it may be anything."""
    if not is_tuple_of(thing, 8):
        return False
    n, take, at, many, way, start, speed, shape = thing
    if not is_whole_within(n, 1, MOST_NUMBER) or not is_name(take) or way not in WAYS:
        return False
    if not _is_span(at, many) or not is_from_nought(start) or not is_above_nought(speed):
        return False
    return is_shape(shape) and shape[0][0] == NOUGHT and shape[-1][0] == (many, 1)


def is_lane_frame(thing):
    """Whether it is a lane but for what its tuple of pieces holds."""
    if not is_tuple_of(thing, 4):
        return False
    name, gain, silent, pieces = thing
    if not is_name(name) or not is_from_nought(gain):
        return False
    return is_whole_within(silent, 0, 1) and isinstance(pieces, tuple)


def fault_of(thing):
    """The first fault for which it is no sheet, None where it is one; it may be anything."""
    if not _is_frame(thing):
        return ("sheet",)
    tempo, takes, lanes = thing
    if not is_tempo(tempo):
        return ("tempo",)
    fault = _fault_of_takes(takes)
    if fault is None:
        fault = _fault_of_lanes(lanes)
    if fault is None:
        fault = _fault_of_pieces(takes, lanes)
    return fault


def _is_corner(thing):
    return is_tuple_of(thing, 2) and is_from_nought(thing[0]) and is_from_nought(thing[1])


def _is_span(at, many):
    """Whether a piece may begin at this step and cover so many."""
    if not is_whole(at) or not is_whole(many):
        return False
    return at >= 0 and many >= 1 and at + many <= MOST_END


def _is_frame(thing):
    """Whether it looks like a sheet from outside."""
    if not is_tuple_of(thing, 3):
        return False
    _, takes, lanes = thing
    if not isinstance(takes, tuple) or not isinstance(lanes, tuple):
        return False
    return len(takes) <= MOST_TAKES and len(lanes) <= MOST_LANES


def _fault_of_takes(takes):
    for k, take in enumerate(takes):
        if not is_take(take):
            return ("take", k)
    again = _first_again([take[0] for take in takes])
    return None if again is None else ("alike", again)


def _fault_of_lanes(lanes):
    for k, lane in enumerate(lanes):
        if not is_lane_frame(lane):
            return ("lane", k)
    again = _first_again([lane[0] for lane in lanes])
    return None if again is None else ("same", again)


def _fault_of_pieces(takes, lanes):
    laid = [(k, j, piece) for k, lane in enumerate(lanes) for j, piece in enumerate(lane[3])]
    for k, j, piece in laid:
        if not is_piece(piece):
            return ("piece", k, j)
    if len(laid) > MOST_PIECES:
        return ("many",)
    again = _first_again([row[2][0] for row in laid])
    if again is not None:
        return ("twice", laid[again][0], laid[again][1])
    names = [take[0] for take in takes]
    for k, j, piece in laid:
        if piece[1] not in names:
            return ("untaken", k, j)
    return None


def _first_again(things):
    """Where the first thing stands that stands ahead of itself already, None without one."""
    seen = set()
    for k, thing in enumerate(things):
        if thing in seen:
            return k
        seen.add(thing)
    return None
