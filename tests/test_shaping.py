import unittest
from fractions import Fraction

from beatlanes.errors import NoFar, NoLevel, NoPiece, NoPlace, NoSheet, NoSide, NoStep, TooMany
from beatlanes.heard import content_at, level_at
from beatlanes.laying import trim
from beatlanes.rows import unlike
from beatlanes.shaping import fade, louder, stretch_to, turn_over
from tests.makings import PLAIN, flat, lane, piece, piece_in, shape_of, sheet, some_sheets, tempo_of, with_piece
from tests.reckoning import Reckoned
from tests.test_heard import NUMBERED
from tests.test_laying import assert_no_sheets_first, assert_sheet
from tests.things import ANYTHING, NO_WHOLES, NOT_ABOVE_NOUGHT, NOT_FROM_NOUGHT, assert_first_goes_first, assert_refused
from tests.things import is_plain_fraction, told, unchanged, worth

TEMPO = tempo_of(2, (4, 1, 3), (3, 1, 1))
RISE = shape_of((0, 1), (2, 3), (4, 2))
BOUND = piece(7, at=5, start=10, speed=Fraction(1, 2), shape=RISE)
FREE = piece(7, "b", at=2, way="free", start=1, speed=Fraction(1, 2), shape=RISE)
SHEET = sheet(lane("b", piece(3, "b", at=1)), lane("a", piece(5), BOUND, piece(9, at=6)), tempo=TEMPO)
FREED = sheet(lane("b", piece(3, "b", at=1)), lane("a", FREE), tempo=TEMPO)

TWELVE = shape_of(*[(place, place * place) for place in range(11)], (14, 0))


def changed(case, ask, made, n, *things):
    """The piece as a deed tells it that changes nothing else."""
    found = ask(made, n, *things)
    assert_sheet(case, found)
    case.assertTrue(unchanged(ask, made, n, *things))
    case.assertEqual(found, with_piece(made, piece_in(found, n)))
    return piece_in(found, n)


def end_content(made, n):
    """The content to which a piece comes at its end."""
    one = piece_in(made, n)
    return Reckoned(made).content(one, Fraction(one[2] + one[3]))


class StretchTo(unittest.TestCase):
    def test_bound(self):
        for many, speed, shape in [(8, Fraction(1, 4), shape_of((0, 1), (4, 3), (8, 2))),
                                   (1, 2, shape_of((0, 1), (Fraction(1, 2), 3), (1, 2))),
                                   (3, Fraction(2, 3), shape_of((0, 1), (Fraction(3, 2), 3), (3, 2))),
                                   (4, Fraction(1, 2), RISE)]:
            self.assertEqual(changed(self, stretch_to, SHEET, 7, many),
                             piece(7, at=5, many=many, start=10, speed=speed, shape=shape))

    def test_free(self):
        # The moments of its steps 2 to 8: 3, 21/4, 8, 9, 10, 11, 13; it runs 7 moments from its start.
        for many, run in [(1, Fraction(9, 4)), (2, 5), (3, 6), (4, 7), (5, 8), (6, 10), (106, 210)]:
            found = changed(self, stretch_to, FREED, 7, many)
            self.assertEqual(found[:7], (7, "b", 2, many, "free", (1, 1), told(Fraction(7, 2) / run)))
            self.assertEqual(end_content(stretch_to(FREED, 7, many), 7), Fraction(9, 2))

    def test_by_jumps(self):
        made = sheet(lane("a", piece(7, way="free", at=1, many=2, speed=3)), tempo=tempo_of(5, (2, 1, 1), (1, 4, 4)))
        self.assertEqual(changed(self, stretch_to, made, 7, 1)[6], (15, 1))
        self.assertEqual(changed(self, stretch_to, made, 7, 3)[6], (3, 2))

    def test_as_long_as_can_be_and_beyond(self):
        self.assertEqual(changed(self, stretch_to, SHEET, 7, 99995)[3], 99995)
        for many in (99996, 100000, 200000, 10 ** 60):
            assert_refused(self, NoPlace, stretch_to, SHEET, 7, many)
            assert_refused(self, NoPlace, stretch_to, FREED, 7, many + 3)
        made = sheet(lane("a", piece(7)), tempo=tempo_of(1, (200000, 1, 3)))
        found = changed(self, stretch_to, made, 7, 100000)
        self.assertEqual((found[3], found[6], found[7]), (100000, (1, 25000), flat(100000)))
        assert_refused(self, NoPlace, stretch_to, made, 7, 100001)

    def test_there_and_back(self):
        for made in [SHEET, FREED] + some_sheets(30, 1700):
            for one in [one for row in made[2] for one in row[3]]:
                for many in (1, 2, 3, 7, 100, 60000):
                    stretched = stretch_to(made, one[0], many)
                    assert_sheet(self, stretched)
                    self.assertEqual(stretch_to(stretched, one[0], one[3]), made)

    def test_start_and_end_content_stay_and_levels_go_along(self):
        for made in some_sheets(30, 1800):
            for one in [one for row in made[2] for one in row[3]]:
                for many in (1, 5, 12):
                    stretched = stretch_to(made, one[0], many)
                    self.assertEqual(end_content(stretched, one[0]), end_content(made, one[0]))
                    self.assertEqual(piece_in(stretched, one[0])[5], one[5])
                    for part in range(7):
                        there = told(one[2] + Fraction(many * part, 7))
                        here = told(one[2] + Fraction(one[3] * part, 7))
                        self.assertEqual(level_at(stretched, one[0], there), level_at(made, one[0], here))

    def test_refusals(self):
        for thing in NUMBERED:
            assert_refused(self, NoPiece, stretch_to, FREED, thing, 3)
        for thing in NO_WHOLES + [0, -1, -4, -10 ** 60]:
            assert_refused(self, NoStep, stretch_to, SHEET, 7, thing)
        dues = [(NoSheet, {0: None}), (NoPiece, {1: 8}), (NoStep, {2: 0}), (NoPlace, {2: 99996})]
        assert_first_goes_first(self, stretch_to, [SHEET, 7, 3], dues)
        assert_no_sheets_first(self, stretch_to, 7, 3)


class TurnOver(unittest.TestCase):
    def test_bound_and_free(self):
        # It lasts from moment 9 on, its four steps 1, 1, 2 and 2.
        self.assertEqual(changed(self, turn_over, SHEET, 7),
                         piece(7, at=5, way="free", start=10, speed=Fraction(1, 3), shape=RISE))
        self.assertEqual(changed(self, turn_over, FREED, 7),
                         piece(7, "b", at=2, way="bound", start=1, speed=Fraction(7, 8), shape=RISE))

    def test_by_a_tempo_that_stays(self):
        made = sheet(lane("a", BOUND), tempo=PLAIN)
        self.assertEqual(changed(self, turn_over, made, 7), BOUND[:4] + ("free",) + BOUND[5:])
        made = sheet(lane("a", BOUND), tempo=tempo_of(Fraction(1, 3)))
        self.assertEqual(changed(self, turn_over, made, 7)[6], (3, 2))

    def test_twice(self):
        for made in [SHEET, FREED] + some_sheets(40, 1900):
            for one in [one for row in made[2] for one in row[3]]:
                turned = turn_over(made, one[0])
                assert_sheet(self, turned)
                self.assertEqual(end_content(turned, one[0]), end_content(made, one[0]))
                self.assertNotEqual(piece_in(turned, one[0])[4], one[4])
                self.assertEqual(turn_over(turned, one[0]), made)

    def test_refusals(self):
        for thing in NUMBERED:
            assert_refused(self, NoPiece, turn_over, FREED, thing)
        assert_first_goes_first(self, turn_over, [SHEET, 7], [(NoSheet, {0: None}), (NoPiece, {1: 8})])
        assert_no_sheets_first(self, turn_over, 7)


class Fade(unittest.TestCase):
    def shape(self, side, far, made=SHEET):
        one = changed(self, fade, made, 7, side, told(far))
        self.assertEqual(one[:7], piece_in(made, 7)[:7])
        return one[7]

    def test_in(self):
        half = Fraction(1, 2)
        for far, shape in [(1, shape_of((0, 0), (1, 2), (2, 3), (4, 2))), (half, shape_of((0, 0), (half, 1 + half), (2, 3), (4, 2))),
                           (2, shape_of((0, 0), (2, 3), (4, 2))), (3, shape_of((0, 0), (3, 2 + half), (4, 2))),
                           (4, shape_of((0, 0), (4, 2)))]:
            self.assertEqual(self.shape("in", far), shape)

    def test_out(self):
        half = Fraction(1, 2)
        for far, shape in [(1, shape_of((0, 1), (2, 3), (3, 2 + half), (4, 0))), (2, shape_of((0, 1), (2, 3), (4, 0))),
                           (3, shape_of((0, 1), (1, 2), (4, 0))), (3 + half, shape_of((0, 1), (half, 1 + half), (4, 0))),
                           (4, shape_of((0, 1), (4, 0)))]:
            self.assertEqual(self.shape("out", far), shape)

    def test_shapes_are_put_plain(self):
        made = sheet(lane("a", piece(7, shape=shape_of((0, 5), (1, 1), (2, 2), (4, 0)))))
        self.assertEqual(self.shape("in", 1, made), shape_of((0, 0), (2, 2), (4, 0)))
        self.assertEqual(self.shape("out", 3, made), shape_of((0, 5), (1, 1), (4, 0)))
        self.assertEqual(self.shape("out", 2, made), shape_of((0, 5), (1, 1), (2, 2), (4, 0)))
        self.assertEqual(self.shape("out", 1, made), shape_of((0, 5), (1, 1), (2, 2), (4, 0)))
        made = sheet(lane("a", piece(7, shape=flat(4, 0))))
        for side in ("in", "out"):
            for far in (1, 2, Fraction(7, 3), 4):
                self.assertEqual(self.shape(side, far, made), flat(4, 0))

    def test_a_free_piece_and_a_long_one(self):
        self.assertEqual(self.shape("in", 2, FREED), shape_of((0, 0), (2, 3), (4, 2)))
        made = sheet(lane("a", piece(7, many=100000)))
        self.assertEqual(self.shape("in", Fraction(1, 10 ** 12), made),
                         shape_of((0, 0), (Fraction(1, 10 ** 12), 1), (100000, 1)))
        self.assertEqual(self.shape("out", 100000, made), shape_of((0, 1), (100000, 0)))

    def test_twelve_corners_and_more(self):
        high = shape_of((0, 1), *[(place, place * place) for place in range(1, 11)], (14, 5))
        made = sheet(lane("b", piece(5)), lane("a", piece(6), piece(7, at=4, many=14, shape=high), piece(8)))
        self.assertEqual(self.shape("in", 1, made), shape_of((0, 0)) + high[1:])
        self.assertEqual(self.shape("out", 4, made), high[:11] + shape_of((14, 0)))
        for far in [Fraction(1, 2), Fraction(999, 1000)]:
            assert_refused(self, TooMany, fade, made, 7, "in", told(far))
        for far in [1, 3, Fraction(1, 10 ** 12)]:
            assert_refused(self, TooMany, fade, made, 7, "out", told(far))
        self.assertEqual(len(self.shape("in", Fraction(3, 2), made)), 12)
        self.assertEqual(len(self.shape("out", Fraction(9, 2), made)), 12)

    def test_levels_elsewhere_stay(self):
        for made in some_sheets(30, 2000):
            for one in [one for row in made[2] for one in row[3]]:
                for side in ("in", "out"):
                    for part in (1, 2, 3, 5):
                        far = Fraction(one[3] * part, 5)
                        faded = fade(made, one[0], side, told(far))
                        bend = far if side == "in" else one[3] - far
                        level = Reckoned(made).level(one, one[2] + bend)
                        for where in [Fraction(one[3] * k, 30) for k in range(30)]:
                            here = told(one[2] + where)
                            if side == "in" and where < far:
                                self.assertEqual(level_at(faded, one[0], here), told(level * where / far))
                            elif side == "out" and where > bend:
                                self.assertEqual(level_at(faded, one[0], here), told(level * (one[3] - where) / far))
                            else:
                                self.assertEqual(level_at(faded, one[0], here), level_at(made, one[0], here))

    def test_refusals(self):
        for thing in NUMBERED:
            assert_refused(self, NoPiece, fade, FREED, thing, "in", (1, 1))
        for thing in ANYTHING + ["In", "IN", "i", "inn", "ou", "inout", " in", ("in",), ["in"], {"in": 1}, 0]:
            assert_refused(self, NoSide, fade, SHEET, 7, thing, (1, 1))
            assert_refused(self, NoSide, fade, SHEET, 7, thing, (0, 1))
        for side in ("in", "out"):
            for thing in NOT_ABOVE_NOUGHT + [told(4 + Fraction(1, 10 ** 12)), (5, 1), (10 ** 60, 1)]:
                assert_refused(self, NoFar, fade, SHEET, 7, side, thing)
        dues = [(NoSheet, {0: None}), (NoPiece, {1: 8}), (NoSide, {2: "on"}), (NoFar, {3: (5, 1)})]
        assert_first_goes_first(self, fade, [SHEET, 7, "in", (4, 1)], dues)
        assert_no_sheets_first(self, fade, 7, "in", (4, 1))


class Louder(unittest.TestCase):
    def test_all_levels(self):
        for by, shape in [(1, RISE), (2, shape_of((0, 2), (2, 6), (4, 4))), (Fraction(1, 3), shape_of(
                (0, Fraction(1, 3)), (2, 1), (4, Fraction(2, 3)))), (10 ** 12 - 1, shape_of(
                    (0, 10 ** 12 - 1), (2, 3 * (10 ** 12 - 1)), (4, 2 * (10 ** 12 - 1))))]:
            for made in (SHEET, FREED):
                found = changed(self, louder, made, 7, told(by))
                self.assertEqual(found, piece_in(made, 7)[:7] + (shape,))

    def test_by_nought(self):
        self.assertEqual(changed(self, louder, SHEET, 7, (0, 1))[7], flat(4, 0))
        made = sheet(lane("a", piece(7, many=14, shape=TWELVE)))
        self.assertEqual(changed(self, louder, made, 7, (0, 1))[7], flat(14, 0))

    def test_twelve_corners(self):
        made = sheet(lane("a", piece(7, many=14, shape=TWELVE)))
        found = changed(self, louder, made, 7, (1, 7))
        self.assertEqual(found[7], tuple((place, told(worth(level) / 7)) for place, level in TWELVE))
        self.assertEqual(louder(louder(made, 7, (1, 7)), 7, (7, 1)), made)

    def test_refusals(self):
        for thing in NUMBERED:
            assert_refused(self, NoPiece, louder, FREED, thing, (1, 1))
        for thing in NOT_FROM_NOUGHT:
            assert_refused(self, NoLevel, louder, SHEET, 7, thing)
        assert_first_goes_first(self, louder, [SHEET, 7, (0, 1)], [(NoSheet, {0: None}), (NoPiece, {1: 8}), (NoLevel, {2: 1})])
        assert_no_sheets_first(self, louder, 7, (1, 1))


class Together(unittest.TestCase):
    def test_what_is_told_may_be_handed_in(self):
        # By turns, with fractions of ever more figures.
        made = sheet(lane("a", FREE), tempo=tempo_of(Fraction(7, 11), (4, Fraction(1, 3), Fraction(9, 7))))
        for _ in range(5):
            made = stretch_to(made, 7, 9)
            made = turn_over(made, 7)
            made = louder(made, 7, (999, 1000))
            made = fade(made, 7, "in", (2, 7))
            made = trim(made, 7, 3, 9)
            assert_sheet(self, made)
            made = stretch_to(made, 7, 4)
        self.assertTrue(is_plain_fraction(content_at(made, 7, (7, 2))))
        self.assertEqual(unlike(made, made, (0, 1), (9, 1)), [])


if __name__ == "__main__":
    unittest.main()
