"""Whole numbers, and fractions: tuples (top, bottom) in lowest terms, the bottom from 1 on."""

from math import gcd

from beatlanes.errors import NoFraction

NOUGHT = (0, 1)


def is_whole(thing):
    """Whether it is a whole number."""
    # Python counts truths among the ints; here they are none.
    return isinstance(thing, int) and thing is not True and thing is not False


def is_whole_within(thing, least, most):
    """Whether it is a whole number from least to most."""
    return isinstance(thing, int) and thing is not True and thing is not False and least <= thing <= most


def is_tuple_of(thing, many):
    """Whether it is a tuple of so many things."""
    return isinstance(thing, tuple) and len(thing) == many


def is_fraction(thing):
    """Whether it is a fraction; it may be anything."""
    # Of each sheet that is asked about each fraction goes through here, so no other function is called.
    if not isinstance(thing, tuple) or len(thing) != 2:
        return False
    top, bottom = thing
    if not isinstance(top, int) or not isinstance(bottom, int):
        return False
    if top is True or top is False or bottom is True:
        return False
    return bottom == 1 or bottom > 1 and gcd(top, bottom) == 1


def is_from_nought(thing):
    """Whether it is a fraction from 0 on."""
    return is_fraction(thing) and thing[0] >= 0


def is_above_nought(thing):
    """Whether it is a fraction above 0."""
    return is_fraction(thing) and thing[0] > 0


def fraction(top, bottom):
    """The fraction of two whole numbers, the bottom of either sign but not 0."""
    if not is_whole(top) or not is_whole(bottom):
        raise NoFraction("top and bottom of a fraction are whole numbers")
    if bottom == 0:
        raise NoFraction("the bottom of a fraction is not 0")
    return in_lowest_terms(top, bottom)


def in_lowest_terms(top, bottom):
    """The fraction of a top and a bottom of either sign, but not 0."""
    shared = gcd(top, bottom)
    # gcd has no sign, so that of the bottom is taken along: the bottom told is above 0.
    if bottom < 0:
        shared = -shared
    return (top // shared, bottom // shared)


def plus(one, other):
    """The sum of two fractions."""
    top = one[0] * other[1] + other[0] * one[1]
    bottom = one[1] * other[1]
    shared = gcd(top, bottom)
    return (top // shared, bottom // shared)


def minus(one, other):
    """The first fraction less the second."""
    top = one[0] * other[1] - other[0] * one[1]
    bottom = one[1] * other[1]
    shared = gcd(top, bottom)
    return (top // shared, bottom // shared)


def times(one, other):
    """The product of two fractions."""
    top = one[0] * other[0]
    bottom = one[1] * other[1]
    shared = gcd(top, bottom)
    return (top // shared, bottom // shared)


def over(one, other):
    """The first fraction divided by the second, which is not 0."""
    if other == NOUGHT:
        raise NoFraction("nothing is divided by 0")
    return in_lowest_terms(one[0] * other[1], one[1] * other[0])


def is_less(one, other):
    """Whether the first fraction is less than the second."""
    return one[0] * other[1] < other[0] * one[1]


def floor_of(one):
    """The greatest whole number that is not above the fraction."""
    return one[0] // one[1]


def least(things):
    """The least of some fractions, at least one."""
    found = things[0]
    for one in things:
        if is_less(one, found):
            found = one
    return found


def greatest(things):
    """The greatest of some fractions, at least one."""
    found = things[0]
    for one in things:
        if is_less(found, one):
            found = one
    return found


def rising(things):
    """Those fractions from the least to the greatest, each once."""
    # Most have a floor of their own; whole numbers are put in order quickly.
    by_floor = {}
    for thing in things:
        by_floor.setdefault(floor_of(thing), []).append(thing)
    found = []
    for floor in sorted(by_floor):
        found += _in_order(by_floor[floor])
    return found


def _in_order(things):
    if len(things) < 2:
        return things
    half = len(things) // 2
    return _merged(_in_order(things[:half]), _in_order(things[half:]))


def _merged(one, other):
    """Two rising lists as one."""
    merged = []
    j = 0
    for thing in one:
        while j < len(other) and is_less(other[j], thing):
            merged.append(other[j])
            j += 1
        if j < len(other) and other[j] == thing:
            j += 1
        merged.append(thing)
    return merged + other[j:]
