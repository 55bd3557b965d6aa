"""Paces: how long steps last, changed over a span of steps or from a step on.

Each deed is there twice: by its own name, for whatever is handed in as a sheet, and below for what surely is one.
"""

from beatlanes.errors import NoLong, NoStep, TooMany
from beatlanes.fracs import is_above_nought, is_whole_within
from beatlanes.spots import refuse_no_sheet
from beatlanes.tempo import MOST_STEPS, MOST_STRETCHES, goes_on, length_from


def pace(sheet, begin, end, first, last):
    """The steps from begin up to end going evenly from one length to another one."""
    refuse_no_sheet(sheet)
    return paced(sheet, begin, end, first, last)


def rest_from(sheet, begin, long):
    """Each step from begin on lasting so long."""
    refuse_no_sheet(sheet)
    return rested(sheet, begin, long)


def paced(sheet, begin, end, first, last):
    """What pace tells of a sheet."""
    refuse_no_steps(begin, end, MOST_STEPS)
    if not is_above_nought(first) or not is_above_nought(last):
        raise NoLong("steps last a fraction above 0")
    tempo, takes, lanes = sheet
    stretches = stretches_ahead(tempo, begin) + [(end - begin, first, last)] + stretches_behind(tempo, end)
    return (plain_tempo(stretches, tempo[1]), takes, lanes)


def rested(sheet, begin, long):
    """What rest_from tells of a sheet."""
    if not is_whole_within(begin, 0, MOST_STEPS):
        raise NoStep("the rest begins at a step that there is, or behind the last one")
    if not is_above_nought(long):
        raise NoLong("steps last a fraction above 0")
    tempo, takes, lanes = sheet
    return (plain_tempo(stretches_ahead(tempo, begin), long), takes, lanes)


def refuse_no_steps(begin, end, most):
    """NoStep of what are no steps begin and end, from 0 on, the end behind the begin and at most so great."""
    if not is_whole_within(end, 1, most) or not is_whole_within(begin, 0, end - 1):
        raise NoStep("steps go from a whole number up to a greater one")


def stretches_ahead(tempo, step):
    """Stretches that tell how long the steps ahead of a step last."""
    return stretches_between(tempo, 0, step)


def stretches_behind(tempo, step):
    """Stretches that tell how long the steps from a step on last, up to the rest."""
    return stretches_between(tempo, step, max(step, sum([stretch[0] for stretch in tempo[0]])))


def stretches_between(tempo, begin, end):
    """Stretches that tell how long the steps from begin up to end last."""
    stretches, rest = tempo
    found = []
    step = 0
    for stretch in stretches:
        first = max(begin - step, 0)
        last = min(end - step, stretch[0])
        if first < last:
            found.append((last - first, length_from(stretch, first), length_from(stretch, last)))
        step += stretch[0]
    if max(begin, step) < end:
        found.append((end - max(begin, step), rest, rest))
    return found


def plain_tempo(stretches, rest):
    """The tempo of stretches side by side, those that go on as one straight line made one.

    TooMany goes where it would have too many stretches, or steps of them.
    """
    kept = []
    for stretch in stretches:
        if kept and goes_on(kept[-1], stretch):
            before = kept.pop()
            stretch = (before[0] + stretch[0], before[1], stretch[2])
        kept.append(stretch)
    while kept and kept[-1][1:] == (rest, rest):
        kept.pop()
    if len(kept) > MOST_STRETCHES or sum([stretch[0] for stretch in kept]) > MOST_STEPS:
        raise TooMany("more stretches, or steps of them, than a tempo may have")
    return (tuple(kept), rest)
