"""Lanes and takes put into a sheet, changed and taken out.

Each deed is there twice: by its own name, for whatever is handed in as a sheet, and below for what surely is one.
"""

from beatlanes.errors import NoLevel, NoName, NoRank, NoTake, Taken, TooMany, Used
from beatlanes.fracs import is_from_nought, is_whole_within
from beatlanes.sheets import MOST_LANES, MOST_TAKES, is_name, is_take
from beatlanes.spots import at_rank, lane_spot, pieces_of, refuse_no_sheet, with_lane


def new_lane(sheet, name):
    """A lane without pieces, gain 1, not silent, put behind the others."""
    refuse_no_sheet(sheet)
    return with_new_lane(sheet, name)


def drop_lane(sheet, name):
    """A lane without pieces taken out."""
    refuse_no_sheet(sheet)
    return without_lane(sheet, name)


def gain_to(sheet, name, gain):
    """A lane given another gain."""
    refuse_no_sheet(sheet)
    return with_gain(sheet, name, gain)


def hush(sheet, name, silent):
    """A lane made silent, 1, or not, 0."""
    refuse_no_sheet(sheet)
    return with_silent(sheet, name, silent)


def lane_to(sheet, name, rank):
    """A lane given another rank among the lanes."""
    refuse_no_sheet(sheet)
    return with_lane_at(sheet, name, rank)


def new_take(sheet, take):
    """A take put behind the others."""
    refuse_no_sheet(sheet)
    return with_new_take(sheet, take)


def drop_take(sheet, name):
    """A take taken out of which no piece is."""
    refuse_no_sheet(sheet)
    return without_take(sheet, name)


def with_new_lane(sheet, name):
    """What new_lane tells of a sheet."""
    tempo, takes, lanes = sheet
    if not is_name(name):
        raise NoName("it is no name")
    if name in [lane[0] for lane in lanes]:
        raise Taken("a lane has this name")
    if len(lanes) == MOST_LANES:
        raise TooMany("there are as many lanes as there may be")
    return (tempo, takes, lanes + ((name, (1, 1), 0, ()),))


def without_lane(sheet, name):
    """What drop_lane tells of a sheet."""
    k = lane_spot(sheet, name)
    tempo, takes, lanes = sheet
    if lanes[k][3]:
        raise Used("the lane has pieces")
    return (tempo, takes, lanes[:k] + lanes[k + 1:])


def with_gain(sheet, name, gain):
    """What gain_to tells of a sheet."""
    k = lane_spot(sheet, name)
    if not is_from_nought(gain):
        raise NoLevel("a gain is a fraction from 0 on")
    lane = sheet[2][k]
    return with_lane(sheet, k, (lane[0], gain) + lane[2:])


def with_silent(sheet, name, silent):
    """What hush tells of a sheet."""
    k = lane_spot(sheet, name)
    if not is_whole_within(silent, 0, 1):
        raise NoLevel("a lane is silent by 0 or 1")
    lane = sheet[2][k]
    return with_lane(sheet, k, lane[:2] + (silent, lane[3]))


def with_lane_at(sheet, name, rank):
    """What lane_to tells of a sheet."""
    k = lane_spot(sheet, name)
    tempo, takes, lanes = sheet
    if not is_whole_within(rank, 0, len(lanes) - 1):
        raise NoRank("a rank is a whole number from 0 to how many others there are")
    return (tempo, takes, at_rank(lanes, k, rank))


def with_new_take(sheet, take):
    """What new_take tells of a sheet."""
    tempo, takes, lanes = sheet
    if not is_take(take):
        raise NoTake("it is no take")
    if take[0] in [other[0] for other in takes]:
        raise Taken("a take has this name")
    if len(takes) == MOST_TAKES:
        raise TooMany("there are as many takes as there may be")
    return (tempo, takes + (take,), lanes)


def without_take(sheet, name):
    """What drop_take tells of a sheet."""
    tempo, takes, lanes = sheet
    kept = tuple([take for take in takes if take[0] != name])
    if len(kept) == len(takes):
        raise NoTake("no take has this name")
    if name in [piece[1] for piece in pieces_of(sheet)]:
        raise Used("a piece is of this take")
    return (tempo, kept, lanes)
