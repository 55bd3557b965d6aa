"""Deeds: each one a tuple of its word and the things that it is done with."""

from beatlanes.cutting import cut_in_two, glued
from beatlanes.errors import NoDeed
from beatlanes.lanes import with_gain, with_lane_at, with_new_lane, with_new_take, with_silent
from beatlanes.lanes import without_lane, without_take
from beatlanes.laying import laid, lifted, moved, raised, shifted, trimmed_to
from beatlanes.paces import paced, rested
from beatlanes.ripples import with_cut_out, with_gap
from beatlanes.shaping import faded, made_louder, stretched, turned
from beatlanes.spots import refuse_no_sheet

# Of each word, of what kinds the things behind it are.
KINDS = {
    "take": ("name", "tones"),
    "untake": ("name",),
    "lane": ("name",),
    "unlane": ("name",),
    "gain": ("name", "fraction"),
    "hush": ("name", "whole"),
    "order": ("name", "whole"),
    "lay": ("name", "name", "whole", "whole", "way", "fraction", "fraction", "shape"),
    "lift": ("whole",),
    "move": ("whole", "whole"),
    "shift": ("whole", "name"),
    "raise": ("whole", "whole"),
    "trim": ("whole", "whole", "whole"),
    "cut": ("whole", "whole"),
    "glue": ("whole", "whole"),
    "stretch": ("whole", "whole"),
    "turn": ("whole",),
    "fade": ("whole", "side", "fraction"),
    "louder": ("whole", "fraction"),
    "pace": ("whole", "whole", "fraction", "fraction"),
    "rest": ("whole", "fraction"),
    "out": ("lane", "whole", "whole"),
    "gap": ("lane", "whole", "whole"),
}


def done(sheet, new, deed):
    """The sheet behind a deed; new is the first number that the deed may give to a piece."""
    refuse_no_sheet(sheet)
    refuse_no_deed(deed)
    return behind_deed(sheet, new, deed)


def refuse_no_deed(thing):
    """NoDeed of what is no tuple of a deed's word and as many things as go with it."""
    # Not each thing that may stand ahead can be looked up, so it is looked at first whether it is a text.
    if not isinstance(thing, tuple) or not thing or not isinstance(thing[0], str):
        raise NoDeed("a deed is a tuple that begins with its word")
    if thing[0] not in KINDS or len(thing) != 1 + len(KINDS[thing[0]]):
        raise NoDeed("no deed has this word and so many things behind it")


def behind_deed(sheet, new, deed):
    """What done tells of a sheet and a deed."""
    match deed:
        case ("take", name, tones):
            return with_new_take(sheet, (name, tones))
        case ("untake", name):
            return without_take(sheet, name)
        case ("lane", name):
            return with_new_lane(sheet, name)
        case ("unlane", name):
            return without_lane(sheet, name)
        case ("gain", name, gain):
            return with_gain(sheet, name, gain)
        case ("hush", name, silent):
            return with_silent(sheet, name, silent)
        case ("order", name, rank):
            return with_lane_at(sheet, name, rank)
        case ("pace", begin, end, first, last):
            return paced(sheet, begin, end, first, last)
        case ("rest", begin, long):
            return rested(sheet, begin, long)
        case ("out", lane, begin, end):
            return with_cut_out(sheet, lane, begin, end, new)
        case ("gap", lane, at, many):
            return with_gap(sheet, lane, at, many, new)
        case _:
            return _behind_deed_on_pieces(sheet, new, deed)


def _behind_deed_on_pieces(sheet, new, deed):
    match deed:
        case ("lay", lane, *things):
            return laid(sheet, lane, (new, *things))
        case ("lift", n):
            return lifted(sheet, n)
        case ("move", n, by):
            return moved(sheet, n, by)
        case ("shift", n, lane):
            return shifted(sheet, n, lane)
        case ("raise", n, rank):
            return raised(sheet, n, rank)
        case ("trim", n, begin, end):
            return trimmed_to(sheet, n, begin, end)
        case ("cut", n, step):
            return cut_in_two(sheet, n, step, new)
        case ("glue", n, second):
            return glued(sheet, n, second)
        case ("stretch", n, many):
            return stretched(sheet, n, many)
        case ("fade", n, side, far):
            return faded(sheet, n, side, far)
        case ("louder", n, by):
            return made_louder(sheet, n, by)
        case ("turn", n):
            return turned(sheet, n)
