import unittest
from fractions import Fraction

from beatlanes.fracs import plus, times
from beatlanes.sheets import fault_of, is_piece, is_shape, is_take
from beatlanes.tempo import moment_of
from tests.things import ANYTHING, NO_PARTS, part_at, paths, put, spoilt, told, unchanged

SIXTY = 10 ** 59 + 7

TEMPO = (((4, (1, 1), (3, 1)), (2, (1, 2), (1, 2))), (2, 1))
TAKE = ("hum", (0, -5, 100000, -100000, 7))
FLAT = (((0, 1), (1, 1)), ((4, 1), (1, 1)))
BENT = (((0, 1), (0, 1)), ((1, 2), (3, 4)), ((4, 1), (1, 3)))
PIECE = (7, "hum", 3, 4, "free", (1, 3), (5, 2), BENT)


def level_at(place):
    """A level for each place, such that no three corners lie on a straight line."""
    return told(Fraction(place) ** 2)


def bow(many, last=None):
    """A shape of so many corners."""
    places = list(range(many - 1)) + [many - 1 if last is None else last]
    return tuple((told(place), level_at(place)) for place in places)


def piece(n, take="hum", at=0, many=4):
    shape = (((0, 1), (1, 1)), ((many, 1), (1, 1)))
    return (n, take, at, many, "bound", (0, 1), (1, 1), shape)


def lane(name, *pieces):
    return (name, (1, 1), 0, pieces)


def name_of(k):
    return "abcdefghijklmnopqrstuvwxyz"[k] * 3


TAKES = (TAKE, ("a", (1,)), ("zzzzzzzz", (2, 3)))
LANES = (lane("low", PIECE, piece(8)), ("high", (0, 1), 1, (piece(99999, "a"), piece(1))), ("empty", (3, 7), 0, ()))
SHEET = (TEMPO, TAKES, LANES)


class Takes(unittest.TestCase):
    def test_takes(self):
        for take in [TAKE, ("a", (0,)), ("z", (1, 1)), ("abcdefgh", tuple(range(200))), ("hum", (-100000, 100000))]:
            self.assertIs(is_take(take), True, take)

    def test_names(self):
        for name in ["a", "z", "az", "abcdefgh", "zzzzzzzz"]:
            self.assertIs(is_take((name, (1,))), True)
        for name in ["", "abcdefghi", "A", "aB", "a1", "1", "a b", " a", "a ", "a\n", "\n", "a_", "a-b", "`", "{", "a`",
                     "a{", "-", None, True, 1, ("a",), ["a"], {"a": 1}]:
            self.assertIs(is_take((name, (1,))), False, name)

    def test_counts_of_tones(self):
        for many in [1, 2, 199, 200]:
            self.assertIs(is_take(("a", (5,) * many)), True)
        for many in [0, 201, 400]:
            self.assertIs(is_take(("a", (5,) * many)), False)

    def test_tones(self):
        for tone in [0, 1, -1, 99999, 100000, -99999, -100000]:
            self.assertIs(is_take(("a", (tone,))), True)
            self.assertIs(is_take(("a", (1, 2, tone))), True)
        for tone in [100001, -100001, SIXTY, -SIXTY, True, False, None, "1", (1,), (1, 1), [1], {}]:
            self.assertIs(is_take(("a", (tone,))), False)
            self.assertIs(is_take(("a", (1, 2, tone))), False)
            self.assertIs(is_take(("a", (tone, 1, 2))), False)

    def test_wrong_kinds(self):
        for path, thing in spoilt(TAKE):
            self.assertIs(is_take(thing), False, (path, thing))
        for thing in ANYTHING + [("a",), ("a", (1,), 1), ["a", (1,)], ("a", [1]), ("a", 1), "ab", ((1,), "a")]:
            self.assertIs(is_take(thing), False, thing)
            self.assertTrue(unchanged(is_take, thing))
            self.assertTrue(unchanged(is_take, ("a", (thing,))))


class Shapes(unittest.TestCase):
    def test_shapes(self):
        for shape in [FLAT, BENT, bow(2), bow(3), bow(12), (((5, 1), (0, 1)), ((11, 2), (0, 1)))]:
            self.assertIs(is_shape(shape), True, shape)

    def test_counts_of_corners(self):
        for many in range(2, 13):
            self.assertIs(is_shape(bow(many)), True)
        for shape in [(), bow(12)[:1], bow(13), bow(14), bow(30)]:
            self.assertIs(is_shape(shape), False)

    def test_the_first_place_may_be_any(self):
        for place in [(0, 1), (1, 999999999999), (1, 2), (3, 1), (999999999999, 1), (SIXTY, 7)]:
            behind = plus(place, (1, 3))
            self.assertIs(is_shape(((place, (1, 1)), (behind, (2, 1)))), True)
        self.assertIs(is_shape((((-1, 1), (1, 1)), ((1, 1), (2, 1)))), False)
        self.assertIs(is_shape((((-2, 1), (1, 1)), ((-1, 1), (2, 1)))), False)

    def test_levels(self):
        for level in [(0, 1), (1, 999999999999), (999999999999, 1), (SIXTY, 3)]:
            self.assertIs(is_shape((((0, 1), level), ((1, 1), level))), True)
        for level in [(-1, 1), (-1, 999999999999), (2, 2), (1, 0), (0, 2), (True, 1), 1, None, [1, 1]]:
            self.assertIs(is_shape((((0, 1), level), ((1, 1), (1, 1)))), False)
            self.assertIs(is_shape((((0, 1), (1, 1)), ((1, 1), level))), False)
            self.assertIs(is_shape((((0, 1), (1, 1)), ((1, 2), level), ((1, 1), (1, 1)))), False)

    def test_places_rise(self):
        one, two = (1, 1), (2, 1)
        for places in [((1, 1), (1, 1)), ((2, 1), (1, 1)), ((1, 2), (1, 3)), ((0, 1), (1, 1), (1, 1)),
                       ((0, 1), (0, 1), (1, 1)), ((0, 1), (2, 1), (1, 1)), ((0, 1), (1, 1), (0, 1))]:
            for first, second in [(one, two), (two, one)]:
                shape = tuple((place, first if k % 2 else second) for k, place in enumerate(places))
                self.assertIs(is_shape(shape), False, shape)

    def test_no_inner_corner_on_the_straight_line(self):
        one = (1, 1)
        straight = [
            (((0, 1), one), ((1, 1), one), ((2, 1), one)),
            (((0, 1), (0, 1)), ((1, 1), (1, 1)), ((2, 1), (2, 1))),
            (((0, 1), (5, 1)), ((1, 3), (4, 1)), ((1, 1), (2, 1))),
            (((1, 7), (0, 1)), ((2, 7), (1, 3)), ((5, 7), (4, 3))),
            (((0, 1), (0, 1)), ((1, 999999999999), (1, 999999999999)), ((1, 1), (1, 1))),
        ]
        for shape in straight:
            self.assertIs(is_shape(shape), False, shape)
            self.assertIs(is_shape((shape[0], shape[2])), True)
            self.assertIs(is_shape(put(shape, (1, 1), plus(shape[1][1], (1, 999999999999)))), True)
            self.assertIs(is_shape(put(shape, (0, 1), plus(shape[0][1], (1, 3)))), True)
            self.assertIs(is_shape(put(shape, (2, 1), plus(shape[2][1], (1, 3)))), True)

    def test_each_inner_corner_counts(self):
        for k in range(1, 11):
            self.assertIs(is_shape(put(bow(12), (k, 1), told(k * k + 1))), False)
            self.assertIs(is_shape(put(bow(12), (k, 1), told(k * k + Fraction(1, 2)))), True)

    def test_straight_lines_over_four_corners(self):
        """Two inner corners of which each lies between those beside it, and one that only lies between further ones."""
        level = [(told(k), (1, 1)) for k in range(4)]
        self.assertIs(is_shape(tuple(level)), False)
        self.assertIs(is_shape((level[0], (told(1), (2, 1)), level[2])), True)
        self.assertIs(is_shape((level[0], (told(1), (2, 1)), level[2], (told(3), (0, 1)))), False)
        self.assertIs(is_shape((level[0], (told(1), (2, 1)), level[2], (told(3), (1, 2)))), True)

    def test_wrong_kinds(self):
        for path, thing in spoilt(BENT):
            self.assertIs(is_shape(thing), False, (path, thing))
        for thing in ANYTHING:
            if thing != ((1, 1), (1, 1)):
                self.assertIs(is_shape((thing,) + FLAT[1:]), False, thing)
            self.assertIs(is_shape(thing), False, thing)
            self.assertTrue(unchanged(is_shape, thing))
            self.assertTrue(unchanged(is_shape, (thing, thing)))
        for corner in [((0, 1),), ((0, 1), (1, 1), (1, 1)), [(0, 1), (1, 1)], (0, 1), ()]:
            self.assertIs(is_shape((corner, FLAT[1])), False)
            self.assertIs(is_shape((FLAT[0], BENT[1], corner)), False)


class Pieces(unittest.TestCase):
    def assert_piece(self, thing, right=True):
        self.assertIs(is_piece(thing), right, thing)

    def with_part(self, k, part):
        return PIECE[:k] + (part,) + PIECE[k + 1:]

    def test_pieces(self):
        for thing in [PIECE, piece(1), piece(99999), piece(5, "zzzzzzzz", 99996, 4), piece(5, "a", 0, 100000)]:
            self.assert_piece(thing)

    def test_numbers(self):
        for n in [1, 2, 99998, 99999]:
            self.assert_piece(self.with_part(0, n))
        for n in [0, -1, 100000, SIXTY, True, False, None, "1", (1, 1)]:
            self.assert_piece(self.with_part(0, n), False)

    def test_take_names(self):
        for name in ["a", "z", "abcdefgh"]:
            self.assert_piece(self.with_part(1, name))
        for name in ["", "abcdefghi", "A", "a1", "a\n", None, 1, True, TAKE, ("a",), ["a"]]:
            self.assert_piece(self.with_part(1, name), False)

    def test_spans(self):
        for at, many in [(0, 1), (0, 100000), (99999, 1), (50000, 50000), (1, 99999), (3, 4)]:
            self.assert_piece(piece(1, "a", at, many))
        for at, many in [(0, 0), (0, 100001), (100000, 1), (99999, 2), (1, 100000), (50000, 50001), (-1, 4),
                         (-1, 1), (0, -1), (5, 0), (100000, 0), (SIXTY, 1), (0, SIXTY)]:
            self.assert_piece(piece(1, "a", at, many), False)
        for at in [True, False, None, "0", (0, 1), [0]]:
            self.assert_piece(self.with_part(2, at), False)
            self.assert_piece(self.with_part(3, at), False)
        self.assert_piece((1, "a", 0, True, "free", (0, 1), (1, 1), (((0, 1), (1, 1)), ((1, 1), (1, 1)))), False)
        self.assert_piece((1, "a", False, 1, "free", (0, 1), (1, 1), (((0, 1), (1, 1)), ((1, 1), (1, 1)))), False)

    def test_ways(self):
        for way in ["free", "bound"]:
            self.assert_piece(self.with_part(4, way))
        for way in ["", "Free", "fre", "freebound", "bound ", "a", None, True, 0, 1, ("free",), ["free"], {}]:
            self.assert_piece(self.with_part(4, way), False)

    def test_starts(self):
        for start in [(0, 1), (1, 999999999999), (999999999999, 1), (SIXTY, 3)]:
            self.assert_piece(self.with_part(5, start))
        for start in [(-1, 1), (-1, 999999999999), (0, 2), (2, 2), 0, 1, None, [0, 1], (False, 1)]:
            self.assert_piece(self.with_part(5, start), False)

    def test_speeds(self):
        for speed in [(1, 1), (1, 999999999999), (999999999999, 1), (SIXTY, 3)]:
            self.assert_piece(self.with_part(6, speed))
        for speed in [(0, 1), (-1, 1), (-1, 999999999999), (0, 2), (2, 2), 1, None, [1, 1], (True, 1)]:
            self.assert_piece(self.with_part(6, speed), False)

    def test_shapes(self):
        for shape in [FLAT, BENT, bow(5), bow(3, 4), bow(5), (BENT[0], ((3999, 1000), (9, 1)), BENT[2])]:
            self.assert_piece(self.with_part(7, shape))
        last_too_early = put(BENT, (2, 0), (399, 100))
        last_too_late = put(BENT, (2, 0), (401, 100))
        first_too_late = put(BENT, (0, 0), (1, 999999999999))
        for shape in [last_too_early, last_too_late, first_too_late]:
            self.assertIs(is_shape(shape), True)
            self.assert_piece(self.with_part(7, shape), False)
        many = 20
        for count in [12, 13]:
            thing = piece(1, "a", 0, many)[:7] + (bow(count, many),)
            self.assert_piece(thing, count == 12)
        self.assert_piece(self.with_part(7, bow(6)), False)
        self.assert_piece(self.with_part(7, (((0, 1), (1, 1)), ((1, 1), (1, 1)), ((4, 1), (1, 1)))), False)
        self.assert_piece(self.with_part(7, ()), False)

    def test_counts_of_parts(self):
        self.assert_piece(PIECE[:7], False)
        self.assert_piece(PIECE + (1,), False)
        self.assert_piece(list(PIECE), False)

    def test_wrong_kinds(self):
        for path, thing in spoilt(PIECE):
            self.assertIs(is_piece(thing), False, (path, thing))
        for thing in ANYTHING:
            self.assert_piece(thing, False)
            self.assertTrue(unchanged(is_piece, thing))
            for k in range(8):
                self.assertTrue(unchanged(is_piece, self.with_part(k, thing)))


def expected_fault(path):
    """The fault of SHEET with a wrong thing at the end of the path."""
    if len(path) == 0 or path in ((1,), (2,)):
        return ("sheet",)
    if path[0] == 0:
        return ("tempo",)
    if path[0] == 1:
        return ("take", path[1])
    if len(path) <= 3 or path[2] != 3:
        return ("lane", path[1])
    return ("piece", path[1], path[3])


class Sheets(unittest.TestCase):
    def assert_fault(self, thing, fault):
        answer = fault_of(thing)
        self.assertEqual(answer, fault)
        self.assertEqual(repr(answer), repr(fault))

    def test_sheets(self):
        for sheet in [SHEET, (((), (1, 1)), (), ()), (TEMPO, (), (lane("a"),)), (TEMPO, TAKES, ())]:
            self.assertIsNone(fault_of(sheet))

    def test_wrong_kinds_at_every_place(self):
        for path, thing in spoilt(SHEET):
            self.assert_fault(thing, expected_fault(path))

    def test_anything(self):
        for thing in ANYTHING:
            if thing not in [(1, 2, 3), (None, None, None)]:
                self.assert_fault(thing, ("sheet",))
            for path in [(), (0,), (1,), (2,), (1, 0), (2, 0), (2, 0, 3), (2, 0, 3, 0), (2, 0, 3, 0, 7)]:
                self.assertTrue(unchanged(fault_of, put(SHEET, path, thing)))
            self.assert_fault(put(SHEET, (0,), thing), ("tempo",))
            self.assert_fault(put(SHEET, (1, 1), thing), ("take", 1))
            self.assert_fault(put(SHEET, (2, 1), thing), ("lane", 1))
            self.assert_fault(put(SHEET, (2, 1, 3, 1), thing), ("piece", 1, 1))

    def test_no_sheet_from_outside(self):
        thirteen_takes = tuple((name_of(k), (1,)) for k in range(13))
        thirteen_lanes = tuple(lane(name_of(k)) for k in range(13))
        for thing in [SHEET[:2], SHEET + ((),), list(SHEET), (TEMPO, list(TAKES), LANES), (TEMPO, TAKES, list(LANES)),
                      (TEMPO, thirteen_takes, ()), (TEMPO, (), thirteen_lanes), (None, (), thirteen_lanes),
                      (TEMPO, (None,) * 13, ()), (TEMPO, (), (None,) * 13), (1, 2, 3), (None, None, None)]:
            self.assert_fault(thing, ("sheet",))
        self.assert_fault((TEMPO, thirteen_takes[:12], thirteen_lanes[:12]), None)
        self.assert_fault((TEMPO, (None,) * 12, (None,) * 12), ("take", 0))
        self.assert_fault((TEMPO, (), (None,) * 12), ("lane", 0))

    def test_tempo(self):
        self.assert_fault(put(SHEET, (0,), ((), (0, 1))), ("tempo",))
        self.assert_fault(put(SHEET, (0,), ((), (1, 1))), None)
        self.assert_fault(put(SHEET, (0,), (((4, (1, 1), (1, 1)),), (1, 1))), ("tempo",))

    def test_takes(self):
        for k in range(3):
            self.assert_fault(put(SHEET, (1, k), ("x", ())), ("take", k))
        both = put(put(SHEET, (1, 2), None), (1, 1), ("x", (100001,)))
        self.assert_fault(both, ("take", 1))

    def test_takes_alike(self):
        self.assert_fault(put(SHEET, (1, 1, 0), "hum"), ("alike", 1))
        self.assert_fault(put(SHEET, (1, 2, 0), "hum"), ("alike", 2))
        self.assert_fault(put(SHEET, (1, 2, 0), "a"), ("alike", 2))
        names = ("x", "y", "z", "y", "x", "x")
        self.assert_fault((TEMPO, tuple((name, (1,)) for name in names), ()), ("alike", 3))

    def test_lanes(self):
        gains = [((0, 1), True), ((1, 999999999999), True), ((SIXTY, 7), True), ((-1, 1), False), ((2, 4), False),
                 (0, False), (1, False), (None, False)]
        for gain, right in gains:
            self.assert_fault(put(SHEET, (2, 2, 1), gain), None if right else ("lane", 2))
        for silent, right in [(0, True), (1, True), (2, False), (-1, False), (True, False), (False, False),
                              ((0, 1), False), (None, False), ("0", False)]:
            self.assert_fault(put(SHEET, (2, 2, 2), silent), None if right else ("lane", 2))
        for name, right in [("a", True), ("hum", True), ("abcdefgh", True), ("abcdefghi", False), ("", False),
                            ("A", False), ("a1", False), (1, False)]:
            self.assert_fault(put(SHEET, (2, 2, 0), name), None if right else ("lane", 2))
        for pieces in [None, [], 1, "", "ab", {}, True]:
            self.assert_fault(put(SHEET, (2, 2, 3), pieces), ("lane", 2))
        self.assert_fault(put(SHEET, (2, 2), ("empty", (1, 1), 0)), ("lane", 2))
        self.assert_fault(put(SHEET, (2, 2), ("empty", (1, 1), 0, (), ())), ("lane", 2))
        self.assert_fault(put(put(SHEET, (2, 2), None), (2, 1), None), ("lane", 1))

    def test_lanes_of_the_same_name(self):
        self.assert_fault(put(SHEET, (2, 1, 0), "low"), ("same", 1))
        self.assert_fault(put(SHEET, (2, 2, 0), "low"), ("same", 2))
        self.assert_fault(put(SHEET, (2, 2, 0), "high"), ("same", 2))
        names = ("x", "y", "z", "y", "x", "x")
        self.assert_fault((TEMPO, (), tuple(lane(name) for name in names)), ("same", 3))
        self.assert_fault((TEMPO, TAKES, (lane("hum"), lane("a"))), None)

    def test_pieces(self):
        for k, j in [(0, 0), (0, 1), (1, 0), (1, 1)]:
            self.assert_fault(put(SHEET, (2, k, 3, j, 0), 0), ("piece", k, j))
        self.assert_fault(put(put(SHEET, (2, 1, 3, 0), None), (2, 0, 3, 1), None), ("piece", 0, 1))
        self.assert_fault(put(SHEET, (2, 2, 3), (None,)), ("piece", 2, 0))

    def test_many(self):
        for counts, fault in [((60,), None), ((61,), ("many",)), ((30, 30), None), ((30, 31), ("many",)),
                              ((0, 60, 0), None), ((0, 60, 1), ("many",)), ((5,) * 12, None),
                              ((5,) * 11 + (6,), ("many",)), ((200,), ("many",))]:
            first = 1
            lanes = []
            for k, count in enumerate(counts):
                lanes.append(lane(name_of(k), *[piece(first + j) for j in range(count)]))
                first += count
            self.assert_fault((TEMPO, TAKES, tuple(lanes)), fault)

    def test_numbers_twice(self):
        self.assert_fault(put(SHEET, (2, 0, 3, 1, 0), 7), ("twice", 0, 1))
        self.assert_fault(put(SHEET, (2, 1, 3, 0, 0), 8), ("twice", 1, 0))
        self.assert_fault(put(SHEET, (2, 1, 3, 1, 0), 7), ("twice", 1, 1))
        lanes = (lane("a", piece(1), piece(2), piece(3)), lane("b"), lane("c", piece(4), piece(2), piece(1), piece(2)))
        self.assert_fault((TEMPO, TAKES, lanes), ("twice", 2, 1))

    def test_untaken(self):
        self.assert_fault(put(SHEET, (2, 0, 3, 0, 1), "low"), ("untaken", 0, 0))
        self.assert_fault(put(SHEET, (2, 1, 3, 1, 1), "hu"), ("untaken", 1, 1))
        self.assert_fault((TEMPO, (), LANES), ("untaken", 0, 0))
        self.assert_fault((TEMPO, TAKES[:1], LANES), ("untaken", 1, 0))
        self.assert_fault(put(put(SHEET, (2, 1, 3, 0, 1), "x"), (2, 0, 3, 1, 1), "y"), ("untaken", 0, 1))

    def test_told_fractions_go_in_again(self):
        long = moment_of(TEMPO, (999999999998, 999999999999))
        for _ in range(4):
            long = times(long, moment_of((((3, long, (1, 7)),), (1, 3)), long))
        self.assertGreater(long[1], 10 ** 150)
        sheet = put(SHEET, (0,), (((5, long, (1, 1)),), long))
        sheet = put(sheet, (2, 0, 1), long)
        sheet = put(put(sheet, (2, 0, 3, 0, 5), long), (2, 0, 3, 0, 6), long)
        sheet = put(sheet, (2, 0, 3, 0, 7, 1, 1), long)
        self.assertIsNone(fault_of(sheet))

    def test_nothing_is_changed(self):
        self.assertTrue(unchanged(fault_of, SHEET))
        for path in paths(SHEET):
            if isinstance(part_at(SHEET, path), tuple):
                self.assertTrue(unchanged(fault_of, put(SHEET, path, list(part_at(SHEET, path)))))


class WhichFaultGoesFirst(unittest.TestCase):
    """Each spoiler puts one fault into a sheet, at places that the others leave alone."""

    SPOILERS = [
        (("tempo",), lambda sheet: put(sheet, (0,), None)),
        (("take", 3), lambda sheet: put(sheet, (1, 3), None)),
        (("alike", 1), lambda sheet: put(sheet, (1, 1, 0), "hum")),
        (("lane", 4), lambda sheet: put(sheet, (2, 4), None)),
        (("same", 3), lambda sheet: put(sheet, (2, 3, 0), "empty")),
        (("piece", 1, 1), lambda sheet: put(sheet, (2, 1, 3, 1), None)),
        (("many",), lambda sheet: put(sheet, (2, 2, 3), tuple(piece(100 + j) for j in range(60)))),
        (("twice", 1, 0), lambda sheet: put(sheet, (2, 1, 3, 0, 0), 7)),
        (("untaken", 0, 0), lambda sheet: put(sheet, (2, 0, 3, 0, 1), "none")),
    ]
    SHEET = (TEMPO, TAKES + (("more", (1,)),), LANES + (lane("some"), lane("others")))

    def test_alone(self):
        self.assertIsNone(fault_of(self.SHEET))
        for fault, spoil in self.SPOILERS:
            self.assertEqual(fault_of(spoil(self.SHEET)), fault)

    def test_of_two(self):
        for k, (first, spoil_first) in enumerate(self.SPOILERS):
            for second, spoil_second in self.SPOILERS[k + 1:]:
                self.assertEqual(fault_of(spoil_second(spoil_first(self.SHEET))), first, (first, second))
                self.assertEqual(fault_of(spoil_first(spoil_second(self.SHEET))), first, (first, second))

    def test_of_all(self):
        sheet = self.SHEET
        for fault, spoil in reversed(self.SPOILERS):
            sheet = spoil(sheet)
            self.assertEqual(fault_of(sheet), fault)

    def test_the_outside_goes_first(self):
        sheet = self.SHEET
        for _, spoil in self.SPOILERS:
            sheet = spoil(sheet)
        for thing in [sheet + (1,), sheet[:2], list(sheet), put(sheet, (1,), None), put(sheet, (2,), [])]:
            self.assertEqual(fault_of(thing), ("sheet",))
        self.assertEqual(fault_of(put(sheet, (1,), (None,) * 13)), ("sheet",))
        self.assertEqual(fault_of(put(sheet, (2,), (None,) * 13)), ("sheet",))

    def test_of_the_same_kind_the_first_place_goes_first(self):
        for wrong in NO_PARTS:
            sheet = put(put(self.SHEET, (2, 0, 3, 1), wrong), (2, 1, 3, 0), wrong)
            self.assertEqual(fault_of(sheet), ("piece", 0, 1))


if __name__ == "__main__":
    unittest.main()
