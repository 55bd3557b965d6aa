"""Tempos: how long each step lasts, and the way from places to moments and back."""

from beatlanes.errors import NoMoment, NoPlace, NoStep, NoTempo
from beatlanes.fracs import NOUGHT, floor_of, is_above_nought, is_from_nought, is_less
from beatlanes.fracs import is_tuple_of, is_whole, is_whole_within, minus, over, plus, times

MOST_STRETCHES = 24
MOST_STEPS = 200000


def is_stretch(thing):
    """Whether it is a stretch (many, first, last) by itself."""
    if not is_tuple_of(thing, 3):
        return False
    many, first, last = thing
    return is_whole_within(many, 1, MOST_STEPS) and is_above_nought(first) and is_above_nought(last)


def is_tempo(thing):
    """Whether it is a tempo (stretches, rest); it may be anything."""
    if not is_tuple_of(thing, 2):
        return False
    stretches, rest = thing
    if not isinstance(stretches, tuple) or len(stretches) > MOST_STRETCHES:
        return False
    if not is_above_nought(rest) or not all([is_stretch(part) for part in stretches]):
        return False
    return sum([part[0] for part in stretches]) <= MOST_STEPS and _is_plain(stretches, rest)


def length_of(tempo, step):
    """How long the step lasts."""
    _refuse_no_tempo(tempo)
    if not is_whole(step) or step < 0:
        raise NoStep("a step is a whole number from 0 on")
    return length_at(tempo, step)


def moment_of(tempo, place):
    """The moment of the place: how long all lasts that lies ahead of it."""
    _refuse_no_tempo(tempo)
    refuse_no_place(place)
    return Clock(tempo).moment_at(place)


def place_of(tempo, moment):
    """The place of which it is the moment."""
    _refuse_no_tempo(tempo)
    refuse_no_moment(moment)
    return Clock(tempo).place_at(moment)


class Clock:
    """A tempo of which many places and moments may be asked, without a look at all of it for each."""

    def __init__(self, tempo):
        stretches, self.rest = tempo
        # Of each stretch: the step and the moment at which it begins, the moment at which it ends, itself.
        self.parts = []
        self.step = 0
        self.moment = NOUGHT
        for stretch in stretches:
            end = plus(self.moment, _length_of_steps(stretch, stretch[0]))
            self.parts.append((self.step, self.moment, end, stretch))
            self.step += stretch[0]
            self.moment = end

    def moment_at(self, place):
        """The moment of a place."""
        for step, begin, _, stretch in self.parts:
            if is_less(place, (step + stretch[0], 1)):
                return plus(begin, _moment_within(stretch, minus(place, (step, 1))))
        behind = minus(place, (self.step, 1))
        return plus(self.moment, times(behind, self.rest))

    def place_at(self, moment):
        """The place of a moment."""
        for step, begin, end, stretch in self.parts:
            if is_less(moment, end):
                return plus((step, 1), _place_within(stretch, minus(moment, begin)))
        behind = minus(moment, self.moment)
        return plus((self.step, 1), over(behind, self.rest))


def length_at(tempo, step):
    """What length_of tells of a tempo and a step."""
    stretches, rest = tempo
    ahead = 0
    for stretch in stretches:
        if step < ahead + stretch[0]:
            return _length_within(stretch, step - ahead)
        ahead += stretch[0]
    return rest


def refuse_no_place(thing):
    """NoPlace of what is no place."""
    if not is_from_nought(thing):
        raise NoPlace("a place is a fraction from 0 on")


def refuse_no_moment(thing):
    """NoMoment of what is no moment."""
    if not is_from_nought(thing):
        raise NoMoment("a moment is a fraction from 0 on")


def goes_on(stretch, behind):
    """Whether both lie on one straight line of lengths."""
    return stretch[2] == behind[1] and _rise_of(stretch) == _rise_of(behind)


def length_from(stretch, step):
    """The length from which a step of the stretch goes on evenly; its last one goes up to that of the count."""
    return plus(stretch[1], times(_rise_of(stretch), (step, 1)))


def _refuse_no_tempo(thing):
    if not is_tempo(thing):
        raise NoTempo("a tempo is a tuple of stretches and a rest")


def _is_plain(stretches, rest):
    for k in range(1, len(stretches)):
        if goes_on(stretches[k - 1], stretches[k]):
            return False
    return not stretches or stretches[-1][1:] != (rest, rest)


def _rise_of(stretch):
    """By how much the lengths go from one step to the next one."""
    many, first, last = stretch
    return over(minus(last, first), (many, 1))


def _length_within(stretch, step):
    """How long the step lasts that has this number within the stretch."""
    # The line of lengths is straight, so a step lasts as long as it tells at its middle.
    middle = times(_rise_of(stretch), (2 * step + 1, 2))
    return plus(stretch[1], middle)


def _length_of_steps(stretch, many):
    """How long the first so many steps of the stretch last together."""
    # The first so many odd numbers have their count's square as their sum.
    by_rise = times(_rise_of(stretch), (many * many, 2))
    return plus(times(stretch[1], (many, 1)), by_rise)


def _moment_within(stretch, place):
    step = floor_of(place)
    part = minus(place, (step, 1))
    return plus(_length_of_steps(stretch, step), times(part, _length_within(stretch, step)))


def _place_within(stretch, moment):
    step = _step_at(stretch, moment)
    part = minus(moment, _length_of_steps(stretch, step))
    return plus((step, 1), over(part, _length_within(stretch, step)))


def _step_at(stretch, moment):
    """The last step of the stretch that begins no later than the moment, counted from its begin."""
    many, (top, bottom), (last_top, last_bottom) = stretch
    # All is multiplied by what makes each step's begin whole, so the search needs no fractions.
    by_step = 2 * many * top * last_bottom
    by_square = last_top * bottom - top * last_bottom
    limit = floor_of(times(moment, (2 * many * bottom * last_bottom, 1)))
    low = 0
    high = many - 1
    while low < high:
        middle = (low + high + 1) // 2
        if middle * by_step + middle * middle * by_square <= limit:
            low = middle
        else:
            high = middle - 1
    return low
