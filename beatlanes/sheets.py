"""Takes, shapes, pieces, lanes and sheets: whether things are such, and what is wrong with a sheet."""

from beatlanes.fracs import NOUGHT, is_above_nought, is_fraction, is_from_nought, is_tuple_of, is_whole_within
from beatlanes.tempo import is_tempo

MOST_SIGNS = 8
MOST_TONES = 200
MOST_TONE = 100000
MOST_CORNERS = 12
MOST_NUMBER = 99999
MOST_END = 100000
MOST_TAKES = 12
MOST_LANES = 12
MOST_PIECES = 60
WAYS = ("free", "bound")


def is_name(thing):
    """Whether it is a name."""
    if not isinstance(thing, str) or not 1 <= len(thing) <= MOST_SIGNS:
        return False
    return thing.isascii() and thing.isalpha() and thing.islower()


def is_take(thing):
    """Whether it is a take (name, tones); it may be anything."""
    if not is_tuple_of(thing, 2):
        return False
    return is_name(thing[0]) and is_tones(thing[1])


def is_tones(thing):
    """Whether it is what a take has as its tones."""
    if not isinstance(thing, tuple) or not 1 <= len(thing) <= MOST_TONES:
        return False
    # As is_whole_within tells, but without a call for each of so many tones.
    least = -MOST_TONE
    most = MOST_TONE
    for tone in thing:
        if not isinstance(tone, int) or tone is True or tone is False or tone < least or tone > most:
            return False
    return True


def is_shape(thing):
    """Whether it is a shape, a tuple of corners (place, level); it may be anything."""
    if not isinstance(thing, tuple) or not 2 <= len(thing) <= MOST_CORNERS:
        return False
    for corner in thing:
        if not isinstance(corner, tuple) or len(corner) != 2:
            return False
        if not is_fraction(corner[0]) or not is_fraction(corner[1]):
            return False
    return thing[0][0][0] >= 0 and _is_plain_line(thing)


def _is_plain_line(corners):
    """Whether corners, of fractions, have levels from 0 on, rising places, and none on the line between two others."""
    (top, bottom), (high, low) = corners[0]
    if high < 0:
        return False
    up = 0
    across = 0
    for (next_top, next_bottom), (next_high, next_low) in corners[1:]:
        was_up = up
        was_across = across
        # The slope to the next corner is up by across; both are multiplied by all bottoms, which needs no division.
        across = (next_top * bottom - top * next_bottom) * low * next_low
        up = (next_high * low - high * next_low) * bottom * next_bottom
        if across <= 0 or next_high < 0:
            return False
        # Ahead of the first corner nothing goes across.
        if was_across > 0 and up * was_across == was_up * across:
            return False
        top = next_top
        bottom = next_bottom
        high = next_high
        low = next_low
    return True


def is_piece(thing):
    """Whether it is a piece (n, take, at, many, way, start, speed, shape); it may be anything."""
    if not is_tuple_of(thing, 8):
        return False
    n, take, at, many, way, start, speed, shape = thing
    if not is_whole_within(n, 1, MOST_NUMBER) or not is_name(take) or way not in WAYS:
        return False
    if not is_whole_within(at, 0, MOST_END) or not is_whole_within(many, 1, MOST_END - at):
        return False
    if not is_from_nought(start) or not is_above_nought(speed):
        return False
    return is_shape(shape) and shape[0][0] == NOUGHT and shape[-1][0] == (many, 1)


def is_lane_frame(thing):
    """Whether it is a lane but for what its tuple of pieces holds."""
    if not is_tuple_of(thing, 4):
        return False
    name, gain, silent, pieces = thing
    if not is_name(name) or not is_from_nought(gain):
        return False
    return is_whole_within(silent, 0, 1) and isinstance(pieces, tuple)


def fault_of(thing):
    """The first fault for which it is no sheet, None where it is one; it may be anything."""
    if not _is_frame(thing):
        return ("sheet",)
    tempo, takes, lanes = thing
    if not is_tempo(tempo):
        return ("tempo",)
    fault = _fault_of_takes(takes)
    if fault is None:
        fault = _fault_of_lanes(lanes)
    if fault is None:
        fault = _fault_of_pieces(takes, lanes)
    return fault


def _is_frame(thing):
    """Whether it looks like a sheet from outside."""
    if not is_tuple_of(thing, 3):
        return False
    _, takes, lanes = thing
    if not isinstance(takes, tuple) or not isinstance(lanes, tuple):
        return False
    return len(takes) <= MOST_TAKES and len(lanes) <= MOST_LANES


def _fault_of_takes(takes):
    for k, take in enumerate(takes):
        if not is_take(take):
            return ("take", k)
    again = _first_again([take[0] for take in takes])
    return None if again is None else ("alike", again)


def _fault_of_lanes(lanes):
    for k, lane in enumerate(lanes):
        if not is_lane_frame(lane):
            return ("lane", k)
    again = _first_again([lane[0] for lane in lanes])
    return None if again is None else ("same", again)


def _fault_of_pieces(takes, lanes):
    laid = [(k, j, piece) for k, lane in enumerate(lanes) for j, piece in enumerate(lane[3])]
    for k, j, piece in laid:
        if not is_piece(piece):
            return ("piece", k, j)
    if len(laid) > MOST_PIECES:
        return ("many",)
    again = _first_again([row[2][0] for row in laid])
    if again is not None:
        return ("twice", laid[again][0], laid[again][1])
    names = {take[0] for take in takes}
    for k, j, piece in laid:
        if piece[1] not in names:
            return ("untaken", k, j)
    return None


def _first_again(things):
    """Where the first thing stands that stands ahead of itself already, None without one."""
    seen = set()
    for k, thing in enumerate(things):
        if thing in seen:
            return k
        seen.add(thing)
    return None
