import unittest
from fractions import Fraction

from beatlanes.cutting import cut, glue
from beatlanes.errors import NoGlue, NoPiece, NoSheet, NoStep, Taken, TooMany
from beatlanes.heard import content_at, heard_at, level_at, sound_at
from beatlanes.laying import move, raise_to, shift, trim
from beatlanes.rows import unlike
from tests.makings import flat, lane, numbers_in, piece, piece_in, shape_of, sheet, some_sheets, tempo_of, with_piece
from tests.test_heard import NUMBERED
from tests.test_laying import assert_no_sheets_first, assert_sheet, of_sixty
from tests.things import NO_WHOLES, assert_first_goes_first, assert_refused, told, unchanged

TEMPO = tempo_of(2, (4, 1, 3), (3, 1, 1))
RISE = shape_of((0, 1), (2, 3), (4, 2))
BOUND = piece(7, at=5, start=10, speed=Fraction(1, 2), shape=RISE)
FREE = piece(7, "b", at=2, way="free", start=1, speed=Fraction(1, 2), shape=RISE)
SHEET = sheet(lane("b", piece(3, "b", at=1)), lane("a", piece(5), BOUND, piece(9, at=6)), tempo=TEMPO)
FREED = sheet(lane("a", FREE), tempo=TEMPO)

NO_NUMBERS = NO_WHOLES + [0, -1, 100000, 10 ** 60]

TWELVE = shape_of(*[(place, place * place) for place in range(11)], (14, 0))


class Cut(unittest.TestCase):
    def parts(self, made, step, n=7, new=77):
        found = cut(made, n, step, new)
        assert_sheet(self, found)
        self.assertTrue(unchanged(cut, made, n, step, new))
        return piece_in(found, n), piece_in(found, new)

    def test_two_parts(self):
        half = Fraction(1, 2)
        for step, first, second in [
                (6, shape_of((0, 1), (1, 2)), shape_of((0, 2), (1, 3), (3, 2))),
                (7, shape_of((0, 1), (2, 3)), shape_of((0, 3), (2, 2))),
                (8, shape_of((0, 1), (2, 3), (3, 2 + half)), shape_of((0, 2 + half), (1, 2)))]:
            self.assertEqual(self.parts(SHEET, step), (
                piece(7, at=5, many=step - 5, start=10, speed=half, shape=first),
                piece(77, at=step, many=9 - step, start=10 + half * (step - 5), speed=half, shape=second)))

    def test_a_free_piece(self):
        # The moments of its steps 2 to 6: 3, 21/4, 8, 9, 10.
        for step, start in [(3, Fraction(17, 8)), (4, Fraction(7, 2)), (5, 4)]:
            first, second = self.parts(FREED, step)
            self.assertEqual(first[:7], (7, "b", 2, step - 2, "free", (1, 1), (1, 2)))
            self.assertEqual(second[:7], (77, "b", step, 6 - step, "free", told(start), (1, 2)))

    def test_right_above(self):
        self.assertEqual(numbers_in(cut(SHEET, 7, 6, 1)), [[3], [5, 7, 1, 9]])
        self.assertEqual(numbers_in(cut(SHEET, 5, 1, 99999)), [[3], [5, 99999, 7, 9]])
        self.assertEqual(numbers_in(cut(SHEET, 9, 8, 4)), [[3], [5, 7, 9, 4]])
        made = cut(SHEET, 7, 6, 1)
        self.assertEqual(made[:2], SHEET[:2])
        self.assertEqual([row[:3] for row in made[2]], [row[:3] for row in SHEET[2]])
        self.assertEqual([piece_in(made, n) for n in (3, 5, 9)], [piece_in(SHEET, n) for n in (3, 5, 9)])

    def test_shapes_of_twelve_corners(self):
        made = sheet(lane("a", piece(7, at=4, many=14, shape=TWELVE)))
        for step in range(5, 18):
            first, second = self.parts(made, step)
            inner = 1 if step - 4 <= 10 else 0
            self.assertEqual(len(first[7]) + len(second[7]), 14 - inner)
        self.assertEqual(self.parts(made, 14)[0][7], TWELVE[:11])
        self.assertEqual(self.parts(made, 17)[0][7], TWELVE[:11] + (((13, 1), (25, 1)),))

    def test_steps_that_are_not_within(self):
        for step in NO_WHOLES + [5, 9, 4, 10, 0, -6, 10 ** 60, (6, 1)]:
            assert_refused(self, NoStep, cut, SHEET, 7, step, 77)
        one = sheet(lane("a", piece(7, at=5, many=1)))
        for step in (4, 5, 6):
            assert_refused(self, NoStep, cut, one, 7, step, 77)

    def test_refusals(self):
        for thing in NUMBERED:
            assert_refused(self, NoPiece, cut, FREED, thing, 3, 77)
        for thing in NO_NUMBERS:
            assert_refused(self, NoPiece, cut, SHEET, 7, 6, thing)
        for new in (3, 5, 7, 9):
            assert_refused(self, Taken, cut, SHEET, 7, 6, new)
        dues = [(NoSheet, {0: None}), (NoPiece, {1: 8}), (NoStep, {2: 5}), (NoPiece, {3: 0}), (Taken, {3: 3})]
        assert_first_goes_first(self, cut, [SHEET, 7, 6, 77], dues)
        assert_no_sheets_first(self, cut, 7, 6, 77)

    def test_sixty_pieces_and_one_more(self):
        assert_sheet(self, cut(of_sixty(59), 7, 2, 60))
        assert_refused(self, TooMany, cut, of_sixty(), 7, 2, 61)
        assert_refused(self, Taken, cut, of_sixty(), 7, 2, 60)
        assert_refused(self, NoPiece, cut, of_sixty(), 7, 2, 0)

    def test_all_is_heard_as_it_was(self):
        for made in some_sheets(40, 1600):
            for one in [one for row in made[2] for one in row[3]]:
                for step in range(one[2] + 1, one[2] + one[3]):
                    parted = cut(made, one[0], step, 100)
                    assert_sheet(self, parted)
                    self.assertEqual(unlike(made, parted, (0, 1), (20, 1)), [])
                    for part in range(3 * one[2], 3 * (one[2] + one[3])):
                        where = told(Fraction(part, 3))
                        n = one[0] if part < 3 * step else 100
                        for ask in (content_at, level_at, sound_at):
                            self.assertEqual(ask(parted, n, where), ask(made, one[0], where))
                        self.assertIsNone(content_at(parted, one[0] + 100 - n, where))
                    self.assertEqual(glue(parted, one[0], 100), made)


class Glue(unittest.TestCase):
    def setUp(self):
        self.parted = cut(SHEET, 7, 6, 77)
        self.second = piece_in(self.parted, 77)

    def test_what_was_cut_is_as_it_was(self):
        for made in (SHEET, FREED):
            for step in range(piece_in(made, 7)[2] + 1, piece_in(made, 7)[2] + 4):
                parted = cut(made, 7, step, 77)
                self.assertEqual(glue(parted, 7, 77), made)
                self.assertTrue(unchanged(glue, parted, 7, 77))

    def test_several_parts(self):
        parted = cut(cut(cut(SHEET, 7, 8, 20), 7, 6, 21), 21, 7, 22)
        self.assertEqual(numbers_in(parted)[1], [5, 7, 21, 22, 20, 9])
        self.assertEqual(glue(glue(glue(parted, 21, 22), 21, 20), 7, 21), SHEET)
        self.assertEqual(glue(glue(glue(parted, 22, 20), 7, 21), 7, 22), SHEET)

    def test_levels_of_both(self):
        made = sheet(lane("a", piece(1, many=2, shape=shape_of((0, 5), (1, 1), (2, 3))),
                          piece(2, at=2, start=2, shape=shape_of((0, 3), (3, 9), (4, 0)))))
        self.assertEqual(piece_in(glue(made, 1, 2), 1),
                         piece(1, many=6, shape=shape_of((0, 5), (1, 1), (5, 9), (6, 0))))
        made = with_piece(made, piece(2, at=2, start=2, shape=shape_of((0, 3), (3, 10), (4, 0))))
        self.assertEqual(piece_in(glue(made, 1, 2), 1),
                         piece(1, many=6, shape=shape_of((0, 5), (1, 1), (2, 3), (5, 10), (6, 0))))
        assert_sheet(self, glue(made, 1, 2))

    def test_the_other_is_gone_and_all_else_stays(self):
        made = glue(self.parted, 7, 77)
        self.assertEqual(numbers_in(made), [[3], [5, 7, 9]])
        self.assertEqual(made, SHEET)

    def test_each_thing_that_is_missing_by_itself(self):
        n, take, at, many, way, start, speed, shape = self.second
        self.assertEqual((at, many, start, speed), (6, 3, (21, 2), (1, 2)))
        others = [
            (n, "b", at, many, way, start, speed, shape),
            (n, take, at + 1, many, way, start, speed, shape),
            (n, take, at - 1, many, way, start, speed, shape),
            (n, take, at, many, "free", start, speed, shape),
            (n, take, at, many, way, told(Fraction(43, 4)), speed, shape),
            (n, take, at, many, way, (0, 1), speed, shape),
            (n, take, at, many, way, start, told(Fraction(501, 1000)), shape),
            (n, take, at, many, way, start, speed, shape_of((0, Fraction(201, 100)), (1, 3), (3, 2))),
            (n, take, at, many, way, start, speed, shape_of((0, 0), (1, 3), (3, 2))),
            (n, take, at, many, way, start, speed, flat(3)),
        ]
        for other in others:
            assert_refused(self, NoGlue, glue, with_piece(self.parted, other), 7, 77)
        for other in [(n, take, at, 2, way, start, speed, shape_of((0, 2), (1, 3), (2, 7))),
                      (n, take, at, 99, way, start, speed, flat(99, 2))]:
            assert_sheet(self, glue(with_piece(self.parted, other), 7, 77))

    def test_free_and_by_another_tempo(self):
        parted = cut(FREED, 7, 4, 77)
        for moved in [move(move(parted, 7, 1), 77, 1), (tempo_of(2),) + parted[1:], (tempo_of(2, (3, 1, 3)),) + parted[1:]]:
            assert_refused(self, NoGlue, glue, moved, 7, 77)
        later = (tempo_of(9, (4, 1, 3)),) + parted[1:]
        self.assertEqual(glue(later, 7, 77), (later[0],) + FREED[1:])
        bound = cut(SHEET, 7, 6, 77)
        self.assertEqual(piece_in(glue(move(move(bound, 7, 1), 77, 1), 7, 77), 7), piece_in(move(SHEET, 7, 1), 7))

    def test_where_they_stand(self):
        assert_refused(self, NoGlue, glue, self.parted, 77, 7)
        assert_refused(self, NoGlue, glue, self.parted, 7, 7)
        assert_refused(self, NoGlue, glue, self.parted, 7, 9)
        assert_refused(self, NoGlue, glue, self.parted, 7, 3)
        assert_refused(self, NoGlue, glue, raise_to(self.parted, 77, 1), 7, 77)
        assert_refused(self, NoGlue, glue, raise_to(self.parted, 77, 0), 7, 77)
        assert_refused(self, NoGlue, glue, raise_to(self.parted, 77, 3), 7, 77)
        assert_refused(self, NoGlue, glue, shift(self.parted, 77, "b"), 7, 77)
        assert_refused(self, NoGlue, glue, shift(self.parted, 7, "b"), 7, 77)
        both = shift(shift(self.parted, 7, "b"), 77, "b")
        self.assertEqual(numbers_in(glue(both, 7, 77)), [[3, 7], [5, 9]])

    def test_the_same_rank_in_another_lane(self):
        made = sheet(lane("a", piece(1, many=2)), lane("b", piece(3), piece(2, at=2, start=2)))
        assert_refused(self, NoGlue, glue, made, 1, 2)

    def test_twelve_corners_and_more(self):
        def joined(first_corners, second_corners):
            first = shape_of(*[(place, place % 2) for place in range(first_corners)])
            second = shape_of(*[(place, (place + first_corners + 1) % 2) for place in range(second_corners)])
            many = first_corners - 1
            return sheet(lane("b", piece(5)), lane("a", piece(6), piece(1, many=many, shape=first), piece(
                2, at=many, many=second_corners - 1, start=many, shape=second), piece(8)))
        for first, second, corners in [(2, 2, 3), (6, 7, 12), (2, 11, 12), (11, 2, 12)]:
            found = glue(joined(first, second), 1, 2)
            assert_sheet(self, found)
            self.assertEqual(len(piece_in(found, 1)[7]), corners)
        for first, second in [(7, 7), (12, 2), (2, 12), (12, 12)]:
            assert_refused(self, TooMany, glue, joined(first, second), 1, 2)
        whole = sheet(lane("a", piece(7, at=4, many=14, shape=TWELVE)))
        self.assertEqual(glue(cut(whole, 7, 17, 8), 7, 8), whole)
        self.assertEqual(glue(cut(whole, 7, 6, 8), 7, 8), whole)

    def test_refusals(self):
        for thing in NUMBERED:
            assert_refused(self, NoPiece, glue, FREED, thing, 7)
            assert_refused(self, NoPiece, glue, FREED, 7, thing)
        dues = [(NoSheet, {0: None}), (NoPiece, {1: 8}), (NoPiece, {2: 8}), (NoGlue, {2: 9})]
        assert_first_goes_first(self, glue, [self.parted, 7, 77], dues)
        assert_no_sheets_first(self, glue, 7, 77)

    def test_trimmed_further_out_and_glued(self):
        # A part that was trimmed and trimmed back is glued as any other one.
        parted = cut(SHEET, 7, 7, 77)
        self.assertEqual(glue(trim(trim(parted, 77, 7, 30), 77, 7, 9), 7, 77), SHEET)
        self.assertEqual(heard_at(glue(parted, 7, 77), (8, 1)), heard_at(SHEET, (8, 1)))


if __name__ == "__main__":
    unittest.main()
