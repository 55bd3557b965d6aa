"""Whole numbers, and fractions: tuples (top, bottom) in lowest terms, the bottom from 1 on."""

from math import gcd

from beatlanes.errors import NoFraction

NOUGHT = (0, 1)


def is_whole(thing):
    """Whether it is a whole number."""
    # Python counts truths among the ints; here they are none.
    return isinstance(thing, int) and not isinstance(thing, bool)


def is_whole_within(thing, least, most):
    """Whether it is a whole number from least to most."""
    return is_whole(thing) and least <= thing <= most


def is_tuple_of(thing, many):
    """Whether it is a tuple of so many things."""
    return isinstance(thing, tuple) and len(thing) == many


def is_fraction(thing):
    """Whether it is a fraction; it may be anything."""
    if not is_tuple_of(thing, 2):
        return False
    top, bottom = thing
    if not is_whole(top) or not is_whole(bottom):
        return False
    return bottom >= 1 and gcd(top, bottom) == 1


def is_from_nought(thing):
    """Whether it is a fraction from 0 on."""
    return is_fraction(thing) and thing[0] >= 0


def is_above_nought(thing):
    """Whether it is a fraction above 0."""
    return is_fraction(thing) and thing[0] > 0


def fraction(top, bottom):
    """The fraction of two whole numbers, the bottom of either sign but not 0."""
    if not is_whole(top) or not is_whole(bottom):
        raise NoFraction("top and bottom of a fraction are whole numbers")
    if bottom == 0:
        raise NoFraction("the bottom of a fraction is not 0")
    return _in_lowest_terms(top, bottom)


def plus(one, other):
    """The sum of two fractions."""
    top, bottom = one
    other_top, other_bottom = other
    return _in_lowest_terms(top * other_bottom + other_top * bottom, bottom * other_bottom)


def minus(one, other):
    """The first fraction less the second."""
    top, bottom = one
    other_top, other_bottom = other
    return _in_lowest_terms(top * other_bottom - other_top * bottom, bottom * other_bottom)


def times(one, other):
    """The product of two fractions."""
    return _in_lowest_terms(one[0] * other[0], one[1] * other[1])


def over(one, other):
    """The first fraction divided by the second, which is not 0."""
    if other == NOUGHT:
        raise NoFraction("nothing is divided by 0")
    return _in_lowest_terms(one[0] * other[1], one[1] * other[0])


def is_less(one, other):
    """Whether the first fraction is less than the second."""
    return one[0] * other[1] < other[0] * one[1]


def floor_of(one):
    """The greatest whole number that is not above the fraction."""
    return one[0] // one[1]


def least(things):
    """The least of some fractions, at least one."""
    found = things[0]
    for one in things:
        if is_less(one, found):
            found = one
    return found


def greatest(things):
    """The greatest of some fractions, at least one."""
    found = things[0]
    for one in things:
        if is_less(found, one):
            found = one
    return found


def rising(things):
    """Those fractions from the least to the greatest, each once."""
    if len(things) < 2:
        return list(things)
    half = len(things) // 2
    return _merged(rising(things[:half]), rising(things[half:]))


def _merged(one, other):
    """Two rising lists as one."""
    merged = []
    j = 0
    for thing in one:
        while j < len(other) and is_less(other[j], thing):
            merged.append(other[j])
            j += 1
        if j < len(other) and other[j] == thing:
            j += 1
        merged.append(thing)
    return merged + other[j:]


def _in_lowest_terms(top, bottom):
    shared = gcd(top, bottom)
    # gcd has no sign, so that of the bottom is taken along: the bottom told is above 0.
    if bottom < 0:
        shared = -shared
    return (top // shared, bottom // shared)
