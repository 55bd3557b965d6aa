"""What sheets are made of in tests: short ways to write them, and sheets of all kinds by a seed."""

from random import Random

from beatlanes.sheets import fault_of
from beatlanes.tempo import is_tempo
from tests.things import told, worth

PLAIN = ((), (1, 1))
TAKES = (("a", (5, -7, 3)), ("b", (100, 0, -20, 40)), ("c", (1,)))


def shape_of(*corners):
    return tuple((told(place), told(level)) for place, level in corners)


def flat(many, level=1):
    return shape_of((0, level), (many, level))


def piece(n, take="a", at=0, many=4, way="bound", start=0, speed=1, shape=None):
    return (n, take, at, many, way, told(start), told(speed), flat(many) if shape is None else shape)


def lane(name, *pieces, gain=1, silent=0):
    return (name, told(gain), silent, pieces)


def sheet(*lanes, tempo=PLAIN, takes=TAKES):
    made = (tempo, takes, lanes)
    assert fault_of(made) is None, fault_of(made)
    return made


def tempo_of(rest, *stretches):
    made = (tuple((many, told(first), told(last)) for many, first, last in stretches), told(rest))
    assert is_tempo(made)
    return made


def piece_in(made, n):
    return [part for row in made[2] for part in row[3] if part[0] == n][0]


def numbers_in(made):
    """The numbers of the pieces, lane by lane, the lowest first."""
    return [[part[0] for part in row[3]] for row in made[2]]


def with_piece(made, part):
    """The sheet with the piece in place of the one that has its number."""
    lanes = tuple(row[:3] + (tuple(part if one[0] == part[0] else one for one in row[3]),) for row in made[2])
    return (made[0], made[1], lanes)


def some_fraction(r, most=3, parts=4):
    return told(worth((r.randint(0, most * parts), 1)) / r.randint(1, parts))


def some_above_nought(r, most=3, parts=4):
    return told(worth((r.randint(1, most * parts), 1)) / r.randint(1, parts))


def some_tempo(r):
    while True:
        lengths = [some_above_nought(r, 2, 3) for _ in range(4)]
        stretches = tuple((r.randint(1, 5), r.choice(lengths), r.choice(lengths)) for _ in range(r.randint(0, 4)))
        made = (stretches, r.choice(lengths))
        if is_tempo(made):
            return made


def is_straight(before, corner, behind):
    rise = (worth(behind[1]) - worth(before[1])) / (worth(behind[0]) - worth(before[0]))
    return worth(before[1]) + rise * (worth(corner[0]) - worth(before[0])) == worth(corner[1])


def put_plain(corners):
    """The corners without one on a straight line, as long as there is one."""
    corners = list(corners)
    while True:
        straight = [k for k in range(1, len(corners) - 1) if is_straight(*corners[k - 1:k + 2])]
        if not straight:
            return tuple(corners)
        del corners[straight[0]]


def some_shape(r, many, most=12):
    parts = r.randint(1, 3)
    places = r.sample(range(1, many * parts), min(many * parts - 1, r.randint(0, most - 2)))
    places = [told(worth((place, parts))) for place in sorted(places)]
    places = [(0, 1)] + places + [(many, 1)]
    return put_plain((place, some_fraction(r, 2, 2)) for place in places)


def some_piece(r, n, many_steps=12):
    at = r.randint(0, many_steps)
    many = r.randint(1, 6)
    way = r.choice(["free", "bound"])
    return (n, r.choice("abc"), at, many, way, some_fraction(r, 2), some_above_nought(r, 2), some_shape(r, many, 5))


def some_sheet(seed, most_lanes=3, most_pieces=4):
    r = Random(seed)
    numbers = r.sample(range(1, 100000), 60)
    lanes = []
    for k in range(r.randint(1, most_lanes)):
        pieces = tuple(some_piece(r, numbers.pop()) for _ in range(r.randint(0, most_pieces)))
        gain = r.choice([(1, 1), (1, 1), (1, 2), (0, 1), (7, 3)])
        lanes.append(("abcdefghijkl"[k], gain, r.choice([0, 0, 0, 1]), pieces))
    return sheet(*lanes, tempo=some_tempo(r))


def some_sheets(many, first=0):
    return [some_sheet(seed) for seed in range(first, first + many)]


def some_name(r, names):
    """Mostly one of the names, sometimes another one."""
    return r.choice(list(names)) if names and r.random() < 0.9 else r.choice(["a", "b", "c", "d", "xy", "abcdefgh"])


def some_deed(r, made):
    """A deed that mostly can be done on the sheet."""
    names = [row[0] for row in made[2]]
    takes = [take[0] for take in made[1]]
    numbers = [one[0] for row in made[2] for one in row[3]]
    n = r.choice(numbers) if numbers and r.random() < 0.95 else r.choice([1, 100, 300])
    name, take = some_name(r, names), some_name(r, takes)
    step, many = r.randint(0, 14), r.randint(1, 6)
    word = r.choice("""take untake lane unlane gain hush order lay lay lay lay lift move shift raise trim cut cut cut glue
        glue stretch turn fade louder pace rest out gap""".split())
    at = r.choice([one[2] for row in made[2] for one in row[3] if one[0] == n] or [0])
    return (word,) + {
        "take": (some_name(r, []), tuple(r.randint(-9, 9) for _ in range(r.randint(1, 4)))), "untake": (take,),
        "lane": (some_name(r, []),), "unlane": (name,), "gain": (name, some_fraction(r)), "hush": (name, r.randint(0, 1)),
        "order": (name, r.randint(0, max(len(names) - 1, 0))), "lift": (n,), "move": (n, r.randint(-3, 5)),
        "lay": (name, take, step, many, r.choice(["free", "bound"]), some_fraction(r, 2), some_above_nought(r, 2),
                some_shape(r, many, 4)),
        "shift": (n, name), "raise": (n, r.randint(0, 2)), "trim": (n, at + r.randint(-1, 2), at + r.randint(1, 6)),
        "cut": (n, at + r.randint(1, 4)), "glue": (n, r.choice(numbers or [1])), "stretch": (n, many), "turn": (n,),
        "fade": (n, r.choice(["in", "out"]), some_above_nought(r, 2)), "louder": (n, some_fraction(r, 1)),
        "pace": (step, step + many, some_above_nought(r), some_above_nought(r)), "rest": (step, some_above_nought(r)),
        "out": (r.choice([None, name]), step, step + many), "gap": (r.choice([None, name]), step, many),
    }[word]
