"""Changes: what became otherwise from one sheet to another one."""

from beatlanes.spots import refuse_no_sheet
from beatlanes.tempo import length_at

PIECE_FIELDS = ("take", "at", "many", "way", "start", "speed", "shape")


def changes(one, other):
    """What became otherwise, row by row: of the tempo, of takes, of lanes, of pieces."""
    refuse_no_sheet(one)
    refuse_no_sheet(other)
    return changes_between(one, other)


def changes_between(one, other):
    """What changes tells of two sheets."""
    rows = []
    if one[0] != other[0]:
        rows += _tempo_changes(one[0], other[0])
    if one[1] != other[1]:
        rows += _take_changes(dict(one[1]), dict(other[1]))
    if one[2] != other[2]:
        rows += _lane_changes(_by_name(one[2]), _by_name(other[2]))
        rows += _piece_changes(_by_number(one[2]), _by_number(other[2]))
    return rows


def _tempo_changes(tempo, other):
    borders = _all_of(_borders_of(tempo), _borders_of(other))
    first = None
    behind = None
    for begin, end in zip(borders, borders[1:]):
        # Both go evenly from begin to end, so they are alike throughout, at one step alone, or nowhere.
        begins_unlike = length_at(tempo, begin) != length_at(other, begin)
        ends_unlike = length_at(tempo, end - 1) != length_at(other, end - 1)
        if begins_unlike or ends_unlike:
            if first is None:
                first = begin if begins_unlike else begin + 1
            behind = end if ends_unlike else end - 1
    if tempo[1] != other[1]:
        first = borders[-1] if first is None else first
        behind = None
    return [] if first is None else [("tempo", first, behind)]


def _borders_of(tempo):
    """The steps at which stretches begin, and the first one behind them."""
    borders = [0]
    for stretch in tempo[0]:
        borders.append(borders[-1] + stretch[0])
    return borders


def _take_changes(was, now):
    names = _all_of(list(was), list(now))
    return [("take", name, was.get(name), now.get(name)) for name in names if was.get(name) != now.get(name)]


def _by_name(lanes):
    return {lane[0]: lane for lane in lanes}


def _lane_changes(was, now):
    ranks = [name for name in was if name in now]
    new_ranks = [name for name in now if name in was]
    rows = []
    for name in _all_of(list(was), list(now)):
        if name in was and name in now:
            lane = was[name]
            new = now[name]
            fields = [("gain", lane[1], new[1]), ("silent", lane[2], new[2]),
                      ("rank", ranks.index(name), new_ranks.index(name))]
        else:
            fields = [("there", name in was, name in now)]
        rows += [("lane", name, field, before, behind) for field, before, behind in fields if before != behind]
    return rows


def _by_number(lanes):
    """Of the number of each piece (lane, piece), lane by lane, the lowest first."""
    return {piece[0]: (lane[0], piece) for lane in lanes for piece in lane[3]}


def _piece_changes(was, now):
    ranks = _ranks_among(was, now)
    new_ranks = _ranks_among(now, was)
    rows = []
    for n in _all_of(list(was), list(now)):
        # Most pieces stay as they are, and need no look at each of their fields.
        if was.get(n) == now.get(n) and ranks.get(n) == new_ranks.get(n):
            continue
        if n in was and n in now:
            lane, piece = was[n]
            new_lane, new = now[n]
            fields = [("lane", lane, new_lane), ("rank", ranks.get(n), new_ranks.get(n))]
            fields += list(zip(PIECE_FIELDS, piece[1:], new[1:]))
        else:
            fields = [("there", was.get(n), now.get(n))]
        rows += [("piece", n, field, before, behind) for field, before, behind in fields if before != behind]
    return rows


def _ranks_among(laid, others):
    """The rank of each piece among those that lie in its lane among the others, too."""
    ranks = {}
    many = {}
    for n, (lane, _) in laid.items():
        if n in others and others[n][0] == lane:
            ranks[n] = many.get(lane, 0)
            many[lane] = ranks[n] + 1
    return ranks


def _all_of(some, others):
    """All that is in one of two lists, each once, rising."""
    return sorted(set(some + others))
