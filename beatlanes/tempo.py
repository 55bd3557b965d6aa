"""Tempos: how long each step lasts, and the way from places to moments and back."""

from beatlanes.errors import NoMoment, NoPlace, NoStep, NoTempo
from beatlanes.fracs import NOUGHT, floor_of, in_lowest_terms, is_above_nought, is_from_nought, is_less
from beatlanes.fracs import is_tuple_of, is_whole, is_whole_within, minus, over, plus, times

MOST_STRETCHES = 24
MOST_STEPS = 200000


def is_stretch(thing):
    """Whether it is a stretch (many, first, last) by itself."""
    if not is_tuple_of(thing, 3):
        return False
    many, first, last = thing
    return is_whole_within(many, 1, MOST_STEPS) and is_above_nought(first) and is_above_nought(last)


def is_tempo(thing):
    """Whether it is a tempo (stretches, rest); it may be anything."""
    if not is_tuple_of(thing, 2):
        return False
    stretches, rest = thing
    if not isinstance(stretches, tuple) or len(stretches) > MOST_STRETCHES:
        return False
    if not is_above_nought(rest) or not all([is_stretch(part) for part in stretches]):
        return False
    return sum([part[0] for part in stretches]) <= MOST_STEPS and _is_plain(stretches, rest)


def length_of(tempo, step):
    """How long the step lasts."""
    _refuse_no_tempo(tempo)
    if not is_whole(step) or step < 0:
        raise NoStep("a step is a whole number from 0 on")
    return length_at(tempo, step)


def moment_of(tempo, place):
    """The moment of the place: how long all lasts that lies ahead of it."""
    _refuse_no_tempo(tempo)
    refuse_no_place(place)
    return Clock(tempo).moment_at(place)


def place_of(tempo, moment):
    """The place of which it is the moment."""
    _refuse_no_tempo(tempo)
    refuse_no_moment(moment)
    return Clock(tempo).place_at(moment)


class Clock:
    """A tempo of which many places and moments may be asked, without a look at all of it for each."""

    def __init__(self, tempo):
        stretches, self.rest = tempo
        # Of each stretch: its first step, the first one behind it, when it begins and ends, its line.
        self.parts = []
        self.step = 0
        self.moment = NOUGHT
        # The moments of places that were told already: where pieces begin, they are asked for again and again.
        self.known = {}
        for stretch in stretches:
            behind = self.step + stretch[0]
            line = _line_of(stretch)
            end = plus(self.moment, _length_of_steps(line, stretch[0]))
            self.parts.append((self.step, behind, self.moment, end, line))
            self.step = behind
            self.moment = end

    def moment_at(self, place):
        """The moment of a place."""
        if place not in self.known:
            self.known[place] = self._found_at(place)
        return self.known[place]

    def place_at(self, moment):
        """The place of a moment."""
        place = self._place_of(moment)
        self.known[place] = moment
        return place

    def _found_at(self, place):
        step = floor_of(place)
        for first, behind, begin, _, line in self.parts:
            if step < behind:
                return plus(begin, _moment_within(line, minus(place, (first, 1))))
        return plus(self.moment, times(minus(place, (self.step, 1)), self.rest))

    def _place_of(self, moment):
        for first, behind, begin, end, line in self.parts:
            if is_less(moment, end):
                return plus((first, 1), _place_within(line, behind - first, minus(moment, begin)))
        return plus((self.step, 1), over(minus(moment, self.moment), self.rest))


def length_at(tempo, step):
    """What length_of tells of a tempo and a step."""
    stretches, rest = tempo
    ahead = 0
    for stretch in stretches:
        if step < ahead + stretch[0]:
            return _length_within(_line_of(stretch), step - ahead)
        ahead += stretch[0]
    return rest


def refuse_no_place(thing):
    """NoPlace of what is no place."""
    if not is_from_nought(thing):
        raise NoPlace("a place is a fraction from 0 on")


def refuse_no_moment(thing):
    """NoMoment of what is no moment."""
    if not is_from_nought(thing):
        raise NoMoment("a moment is a fraction from 0 on")


def goes_on(stretch, behind):
    """Whether both lie on one straight line of lengths."""
    return stretch[2] == behind[1] and _rise_of(stretch) == _rise_of(behind)


def length_from(stretch, step):
    """The length from which a step of the stretch goes on evenly; its last one goes up to that of the count."""
    return plus(stretch[1], times(_rise_of(stretch), (step, 1)))


def _refuse_no_tempo(thing):
    if not is_tempo(thing):
        raise NoTempo("a tempo is a tuple of stretches and a rest")


def _is_plain(stretches, rest):
    for k in range(1, len(stretches)):
        if goes_on(stretches[k - 1], stretches[k]):
            return False
    return not stretches or stretches[-1][1:] != (rest, rest)


def _rise_of(stretch):
    """By how much the lengths go from one step to the next one."""
    many, first, last = stretch
    return over(minus(last, first), (many, 1))


def _line_of(stretch):
    """The line of lengths of a stretch in whole numbers (even, rise, bottom), by which fewer fractions are reckoned.

    Its step i lasts even + (2 * i + 1) * rise, over the bottom. The first so many odd numbers have their count's
    square as their sum, so the first k steps last k * even + k * k * rise together, over the bottom.
    """
    many, (top, bottom), (last_top, last_bottom) = stretch
    even = 2 * many * top * last_bottom
    rise = last_top * bottom - top * last_bottom
    return (even, rise, 2 * many * bottom * last_bottom)


def _length_within(line, step):
    """How long the step lasts that has this number within the stretch."""
    even, rise, bottom = line
    return in_lowest_terms(even + (2 * step + 1) * rise, bottom)


def _length_of_steps(line, many):
    """How long the first so many steps of the stretch last together."""
    even, rise, bottom = line
    return in_lowest_terms(many * (even + many * rise), bottom)


def _moment_within(line, place):
    """The moment of a place, both counted from where the stretch begins."""
    even, rise, bottom = line
    step, part = divmod(place[0], place[1])
    ahead = step * (even + step * rise)
    within = even + (2 * step + 1) * rise
    return in_lowest_terms(ahead * place[1] + part * within, bottom * place[1])


def _place_within(line, many, moment):
    """The place of a moment, both counted from where the stretch of so many steps begins."""
    even, rise, bottom = line
    top = moment[0] * bottom
    step = _step_at(line, many, top // moment[1])
    within = (even + (2 * step + 1) * rise) * moment[1]
    part = top - step * (even + step * rise) * moment[1]
    return in_lowest_terms(step * within + part, within)


def _step_at(line, many, limit):
    """The last of so many steps that begins no later than the moment that is limit over the line's bottom."""
    even, rise, _ = line
    low = 0
    high = many - 1
    while low < high:
        middle = (low + high + 1) // 2
        if middle * (even + middle * rise) <= limit:
            low = middle
        else:
            high = middle - 1
    return low
