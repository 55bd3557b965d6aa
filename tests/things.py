"""What several tests hand in: things of all kinds, and ways to put them at every place within another."""

import sys
from copy import deepcopy
from fractions import Fraction


def deep(wrap, many=10):
    thing = 1
    for _ in range(many):
        thing = wrap(thing)
    return thing


DEEP = [
    deep(lambda inner: (inner,)),
    deep(lambda inner: [inner]),
    deep(lambda inner: {"a": inner}),
    deep(lambda inner: (inner, inner)),
    deep(lambda inner: [{"a": (inner,)}], 3),
]

# Nothing of this is a fraction, a tempo, a take, a shape, a piece or a sheet, or a part of one but a name,
# a whole number or a text.
NO_PARTS = [None, True, False, "", "A", "a b", [], [1], [1, 1], [(1, 1)], {}, {1: 1}, {"a": (1, 1)}] + DEEP[1:3]

ANYTHING = NO_PARTS + DEEP + [
    0, 1, -1, 7, 10 ** 60, -10 ** 3999, "a", "free", "1/2", "(1, 1)",
    (), (1,), (1, 2, 3), (None,), (None, None), (None, None, None), ("a", "b"), ((1, 1), (1, 1)), (((),),),
    (True, 1), (1, True), (False, True), (False, 1), (0, 0), (1, 0), (0, 2), (0, -1), (1, -1), (2, 2), (6, 4),
    (-6, 4), ([1], [1]), ({}, {}), ("1", "2"), ((1,), 1), (1, (1,)), (None, 1), (1, None), (1, [1]),
]


def paths(thing, here=()):
    """The ways to all places within tuples, that to the thing itself first."""
    found = [here]
    if isinstance(thing, tuple):
        for k, part in enumerate(thing):
            found += paths(part, here + (k,))
    return found


def part_at(thing, path):
    for k in path:
        thing = thing[k]
    return thing


def put(thing, path, part):
    """The thing with another part at the end of the path."""
    if not path:
        return part
    k = path[0]
    return thing[:k] + (put(thing[k], path[1:], part),) + thing[k + 1:]


def spoilt(thing):
    """The thing with each of NO_PARTS at each place within, and with a list for each tuple: (path, thing)."""
    for path in paths(thing):
        for part in NO_PARTS:
            yield path, put(thing, path, part)
        if isinstance(part_at(thing, path), tuple):
            yield path, put(thing, path, list(part_at(thing, path)))


def told(worth):
    """A Fraction, or what makes one, as the program tells it."""
    worth = Fraction(worth)
    return (worth.numerator, worth.denominator)


def worth(one):
    return Fraction(one[0], one[1])


def is_plain_fraction(one):
    """Whether it is a fraction as it is told: a plain tuple of plain ints in lowest terms."""
    if type(one) is not tuple or len(one) != 2 or type(one[0]) is not int or type(one[1]) is not int:
        return False
    return one[1] >= 1 and told(worth(one)) == one


def lines_run(ask, *things):
    """How many lines of the program are run by asking: a count that is the same on each machine."""
    count = 0

    def trace(frame, event, arg):
        nonlocal count
        count += 1
        return trace

    before = sys.gettrace()
    sys.settrace(trace)
    try:
        ask(*things)
    finally:
        sys.settrace(before)
    return count


def unchanged(ask, *things):
    """Whether asking twice leaves all that is handed in as it was, and is answered alike."""
    copies = deepcopy(things)
    answers = []
    for _ in range(2):
        try:
            answers.append(ask(*things))
        except ValueError as refusal:
            answers.append(refusal.__class__)
    return things == copies and repr(things) == repr(copies) and answers[0] == answers[1]


def refusal_of(ask, *things):
    """The class of what asking is refused with, None where it is not refused."""
    try:
        ask(*things)
    except ValueError as refusal:
        return refusal.__class__
    return None


def is_plainly_told(thing):
    """Whether it is made of plain tuples, lists, whole numbers, texts and None alone."""
    if type(thing) in (tuple, list):
        return all([is_plainly_told(part) for part in thing])
    return thing is None or type(thing) in (int, str)


def all_but(is_right, more=()):
    """Those of ANYTHING, and of some more things, that are not right."""
    return [thing for thing in ANYTHING + list(more) if not is_right(thing)]


NO_FRACTIONS = all_but(is_plain_fraction)
NOT_FROM_NOUGHT = NO_FRACTIONS + [(-1, 1), (-1, 999999999999), (-10 ** 60, 7)]
NOT_ABOVE_NOUGHT = NOT_FROM_NOUGHT + [(0, 1)]
NO_WHOLES = all_but(lambda thing: type(thing) is int)


def assert_refused(case, refusal, ask, *things):
    """That asking is refused with just this class, and leaves all that is handed in as it was."""
    case.assertIs(refusal_of(ask, *things), refusal, things)
    case.assertTrue(unchanged(ask, *things))


def assert_first_goes_first(case, ask, good, dues):
    """That of several refusals that are due the first goes: dues are (refusal, {number of argument: thing})."""
    case.assertIsNone(refusal_of(ask, *good))
    for j, (refusal, things) in enumerate(dues):
        for _, others in dues[j:]:
            asked = [things.get(k, others.get(k, thing)) for k, thing in enumerate(good)]
            case.assertIs(refusal_of(ask, *asked), refusal, asked)
        worst = list(good)
        for _, others in reversed(dues[j:]):
            worst = [others.get(k, thing) for k, thing in enumerate(worst)]
        case.assertIs(refusal_of(ask, *worst), refusal, worst)
