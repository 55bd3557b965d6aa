import unittest
from fractions import Fraction
from random import Random

from beatlanes.cutting import cut
from beatlanes.errors import NoLane, NoPiece, NoPlace, NoSheet, NoStep, Taken, TooMany
from beatlanes.heard import heard, heard_at, lane_at
from beatlanes.laying import lift, move, trim
from beatlanes.rows import unlike
from beatlanes.ripples import cut_out, open_gap
from beatlanes.tempo import length_of, moment_of
from tests.makings import PLAIN, flat, lane, numbers_in, piece, piece_in, shape_of, sheet, some_sheets, some_tempo
from tests.makings import tempo_of
from tests.test_heard import NAMED
from tests.test_laying import assert_no_sheets_first, assert_sheet, of_sixty
from tests.test_paces import jumps, of_single_steps, single_steps
from tests.things import NO_WHOLES, assert_first_goes_first, assert_refused, told, unchanged

TEMPO = tempo_of(2, (4, 1, 3), (3, 1, 1))
RISE = shape_of((0, 1), (2, 3), (4, 2))
HALF = Fraction(1, 2)
SHEET = sheet(lane("b", piece(3, "b", at=1)), lane("a", piece(5, at=20), piece(7, at=5, start=10, speed=HALF, shape=RISE),
                                                  piece(9, at=3, many=9)), lane("c"), tempo=TEMPO)
FREED = sheet(lane("a", piece(7, "b", at=2, way="free", start=1, speed=HALF, shape=RISE)), tempo=TEMPO)
TWELVE = shape_of(*[(place, place * place) for place in range(11)], (14, 0))
LANED = [thing for thing in NAMED if thing not in ("b", "c") and thing is not None] + ["", "d", "abcdefghi"]
NO_NUMBERS = NO_WHOLES + [0, -1, 100000, 10 ** 60]


def by_other_deeds(made, names, new, parted):
    """The sheet of whose pieces, lane by lane, the lowest first, parted tells what becomes, by other deeds alone."""
    for row in made[2]:
        for one in row[3]:
            if row[0] in names:
                made, new = parted(made, one, new)
    return made


def span_gone(begin, end):
    def parted(made, one, new):
        n, at, last = one[0], one[2], one[2] + one[3]
        if last <= begin:
            return made, new
        if at < begin and last > end:
            made = cut(made, n, begin, new)
            made = trim(made, new, end, last)
            return move(made, new, begin - end), new + 1
        if at < begin:
            return trim(made, n, at, begin), new
        if last <= end:
            return lift(made, n), new
        if at < end:
            made = trim(made, n, end, last)
        return move(made, n, begin - end), new
    return parted


def gap_there(at, many):
    def parted(made, one, new):
        if one[2] + one[3] <= at:
            return made, new
        if one[2] >= at:
            return move(made, one[0], many), new
        return move(cut(made, one[0], at, new), new, many), new + 1
    return parted


def names_of(made):
    return [row[0] for row in made[2]]


class CutOutOfALane(unittest.TestCase):
    def left(self, made, begin, end, name="a", new=77):
        found = cut_out(made, name, begin, end, new)
        assert_sheet(self, found)
        self.assertTrue(unchanged(cut_out, made, name, begin, end, new))
        self.assertEqual((found[0], found[1]), (made[0], made[1]))
        return found

    def test_beside_a_piece(self):
        made = sheet(lane("a", piece(7, at=5, shape=RISE)), lane("b", piece(8, at=5)), tempo=TEMPO)
        for begin, end, at in [(9, 10, 5), (9, 100000, 5), (30, 40, 5), (0, 1, 4), (0, 5, 0), (4, 5, 4), (1, 4, 2)]:
            found = self.left(made, begin, end)
            self.assertEqual(found[2], (lane("a", piece(7, at=at, shape=RISE)), made[2][1]))

    def test_ends_at_the_begin(self):
        for begin, shape in [(6, shape_of((0, 1), (1, 2))), (7, shape_of((0, 1), (2, 3))),
                             (8, shape_of((0, 1), (2, 3), (3, 2 + HALF)))]:
            for end in (9, 10, 100000):
                found = self.left(SHEET, begin, end)
                self.assertEqual(piece_in(found, 7), piece(7, at=5, many=begin - 5, start=10, speed=HALF, shape=shape))

    def test_begins_at_the_end(self):
        for end, shape in [(6, shape_of((0, 2), (1, 3), (3, 2))), (7, shape_of((0, 3), (2, 2))),
                           (8, shape_of((0, 2 + HALF), (1, 2)))]:
            for begin in (5, 4, 3, 0):
                found = self.left(SHEET, begin, end)
                self.assertEqual(piece_in(found, 7), piece(7, at=begin, many=9 - end, start=10 + HALF * (end - 5),
                                                           speed=HALF, shape=shape))

    def test_goes_on_at_both_sides(self):
        found = self.left(SHEET, 6, 8)
        self.assertEqual(numbers_in(found), [[3], [5, 7, 77, 9, 78], []])
        self.assertEqual(piece_in(found, 7), piece(7, at=5, many=1, start=10, speed=HALF, shape=shape_of((0, 1), (1, 2))))
        self.assertEqual(piece_in(found, 77), piece(77, at=6, many=1, start=10 + 3 * HALF, speed=HALF,
                                                    shape=shape_of((0, 2 + HALF), (1, 2))))
        self.assertEqual(piece_in(found, 9), piece(9, at=3, many=3))
        self.assertEqual(piece_in(found, 78), piece(78, at=6, many=4, start=5))
        self.assertEqual(piece_in(found, 5), piece(5, at=18))
        self.assertEqual(found[2][0], SHEET[2][0])

    def test_gone_altogether(self):
        for begin, end in [(5, 9), (4, 9), (5, 10), (3, 12), (0, 12)]:
            found = self.left(SHEET, begin, end)
            self.assertNotIn(7, numbers_in(found)[1])
            self.assertEqual(piece_in(found, 5), piece(5, at=20 - (end - begin)))
        self.assertEqual(numbers_in(self.left(SHEET, 0, 100000)), [[3], [], []])
        self.assertEqual(numbers_in(self.left(SHEET, 0, 24)), [[3], [], []])
        self.assertEqual(self.left(SHEET, 0, 100000, "c"), SHEET)

    def test_a_free_piece(self):
        # The moments of its steps 2 to 6: 3, 21/4, 8, 9, 10.
        for end, start in [(3, Fraction(17, 8)), (4, Fraction(7, 2)), (5, 4)]:
            found = piece_in(self.left(FREED, 2, end), 7)
            self.assertEqual(found[:7], (7, "b", 2, 6 - end, "free", told(start), (1, 2)))
        found = self.left(FREED, 3, 5)
        self.assertEqual(piece_in(found, 7)[:7], (7, "b", 2, 1, "free", (1, 1), (1, 2)))
        self.assertEqual(piece_in(found, 77)[:7], (77, "b", 3, 1, "free", (4, 1), (1, 2)))

    def test_shapes_of_twelve_corners(self):
        made = sheet(lane("a", piece(7, at=4, many=14, shape=TWELVE)))
        for begin in range(4, 18):
            for end in range(begin + 1, 19):
                found = self.left(made, begin, end)
                corners = sum([len(one[7]) for one in found[2][0][3]])
                kept = [k for k, corner in enumerate(TWELVE) if not begin < 4 + corner[0][0] < end]
                self.assertLessEqual(corners, len(kept) + 2)
        self.assertEqual(piece_in(self.left(made, 14, 18), 7)[7], TWELVE[:11])
        self.assertEqual(piece_in(self.left(made, 15, 18), 7)[7], TWELVE[:11] + (((11, 1), (75, 1)),))

    def test_as_by_other_deeds(self):
        r = Random(28)
        for made in some_sheets(60, 3000):
            begin = r.randint(0, 16)
            end = begin + r.randint(1, 6)
            for name in names_of(made):
                expected = by_other_deeds(made, [name], 20, span_gone(begin, end))
                self.assertEqual(cut_out(made, name, begin, end, 20), expected)

    def test_bound_pieces_are_heard_moved(self):
        r = Random(29)
        for made in some_sheets(30, 3100):
            lanes = tuple(row[:3] + (tuple(one[:4] + ("bound",) + one[5:] for one in row[3]),) for row in made[2])
            made = made[:2] + (lanes,)
            begin = r.randint(0, 12)
            end = begin + r.randint(1, 6)
            for name in names_of(made):
                found = cut_out(made, name, begin, end, 20)
                for part in range(60):
                    where = Fraction(part, 3)
                    was = where if where < begin else where + end - begin
                    self.assertEqual(lane_at(found, name, told(where)), lane_at(made, name, told(was)))


class CutOutOfAll(unittest.TestCase):
    def tempo_left(self, tempo, begin, end):
        return cut_out(sheet(*SHEET[2], tempo=tempo), None, begin, end, 77)[0]

    def test_all_lanes(self):
        found = cut_out(SHEET, None, 4, 6, 77)
        assert_sheet(self, found)
        self.assertTrue(unchanged(cut_out, SHEET, None, 4, 6, 77))
        self.assertEqual(numbers_in(found), [[3], [5, 7, 9, 77], []])
        self.assertEqual(piece_in(found, 3), piece(3, "b", at=1, many=3))
        self.assertEqual(piece_in(found, 7), piece(7, at=4, many=3, start=10 + HALF, speed=HALF,
                                                   shape=shape_of((0, 2), (1, 3), (3, 2))))
        self.assertEqual(piece_in(found, 9), piece(9, at=3, many=1))
        self.assertEqual(piece_in(found, 77), piece(77, at=4, many=6, start=3))
        self.assertEqual(found[0], tempo_of(2, (4, 1, 3), (1, 1, 1)))
        self.assertEqual([row[:3] for row in found[2]], [row[:3] for row in SHEET[2]])

    def test_steps_within_over_and_at_the_ends_of_stretches(self):
        for begin, end, stretches in [
                (1, 2, [(1, 1, 3 * HALF), (2, 2, 3), (3, 1, 1)]), (0, 4, [(3, 1, 1)]), (0, 1, [(3, 3 * HALF, 3), (3, 1, 1)]),
                (3, 4, [(3, 1, 5 * HALF), (3, 1, 1)]), (4, 7, [(4, 1, 3)]), (2, 6, [(2, 1, 2), (1, 1, 1)]),
                (6, 9, [(4, 1, 3), (2, 1, 1)]), (7, 9, [(4, 1, 3), (3, 1, 1)]), (100, 200, [(4, 1, 3), (3, 1, 1)]),
                (0, 7, []), (0, 100000, []), (5, 6, [(4, 1, 3), (2, 1, 1)]), (3, 5, [(3, 1, 5 * HALF), (2, 1, 1)])]:
            self.assertEqual(self.tempo_left(TEMPO, begin, end), tempo_of(2, *stretches))

    def test_lines_that_then_go_on_become_one(self):
        self.assertEqual(self.tempo_left(tempo_of(9, (4, 1, 3), (2, 7, 7), (2, 3, 4)), 4, 6), tempo_of(9, (6, 1, 4)))
        self.assertEqual(self.tempo_left(tempo_of(9, (3, 2, 2), (5, 7, 8), (1, 2, 2)), 3, 8), tempo_of(9, (4, 2, 2)))
        self.assertEqual(self.tempo_left(tempo_of(9, (5, 3, 3)), 1, 3), tempo_of(9, (3, 3, 3)))
        # The lengths meet, but they go by unlike much.
        self.assertEqual(len(self.tempo_left(tempo_of(9, (4, 1, 3), (2, 7, 7), (2, 3, 5)), 4, 6)[0]), 2)
        # What is then rest throughout goes, and what rested ahead of it.
        self.assertEqual(self.tempo_left(tempo_of(2, (4, 1, 3), (3, 2, 2), (2, 5, 1)), 7, 9), tempo_of(2, (4, 1, 3)))

    def test_step_by_step(self):
        r = Random(30)
        for _ in range(300):
            tempo = some_tempo(r)
            begin = r.randint(0, 20)
            end = begin + r.randint(1, 8)
            made = cut_out(sheet(tempo=tempo), None, begin, end, 1)[0]
            steps = single_steps(tempo, end)
            del steps[begin:end]
            self.assertEqual(made, of_single_steps(steps, tempo[1]))
            for step in range(30):
                self.assertEqual(length_of(made, step), length_of(tempo, step if step < begin else step + end - begin))

    def test_all_is_heard_ahead_and_behind_as_it_was(self):
        r = Random(31)
        for made in some_sheets(60, 3200):
            begin = r.randint(0, 14)
            end = begin + r.randint(1, 6)
            found = cut_out(made, None, begin, end, 20)
            assert_sheet(self, found)
            expected = by_other_deeds(made, names_of(made), 20, span_gone(begin, end))
            self.assertEqual(found[1:], expected[1:])
            for part in range(60):
                where = Fraction(part, 3)
                was = where if where < begin else where + end - begin
                self.assertEqual(heard_at(found, told(where)), heard_at(made, told(was)))
            at, gone = moment_of(made[0], (begin, 1)), moment_of(made[0], (end, 1))
            self.assertEqual(moment_of(found[0], (begin, 1)), at)
            later = told(Fraction(*gone) + Fraction(5, 7))
            self.assertEqual(heard(found, told(Fraction(*at) + Fraction(5, 7))), heard(made, later))

    def test_a_lane_alone_leaves_the_tempo(self):
        self.assertEqual(cut_out(SHEET, "c", 0, 4, 77), SHEET)
        self.assertEqual(cut_out(SHEET, "a", 0, 4, 77)[0], TEMPO)

    def test_twenty_four_stretches_and_more(self):
        self.assertEqual(len(self.tempo_left(jumps(23), 5, 6)[0]), 23)
        self.assertEqual(len(self.tempo_left(jumps(24), 8, 12)[0]), 24)
        rising = tempo_of(9, *[(10, 1 + k % 2, 5 + k % 2) for k in range(23)])
        self.assertEqual(len(self.tempo_left(rising, 5, 6)[0]), 24)
        rising = tempo_of(9, *[(10, 1 + k % 2, 5 + k % 2) for k in range(24)])
        for begin, end in [(5, 6), (1, 9), (235, 236)]:
            assert_refused(self, TooMany, cut_out, sheet(tempo=rising), None, begin, end, 1)
        for begin, end in [(0, 6), (4, 10), (8, 12), (4, 24), (235, 240), (239, 300), (240, 300)]:
            self.assertLessEqual(len(self.tempo_left(rising, begin, end)[0]), 24)
        self.assertEqual(cut_out(sheet(lane("a"), tempo=rising), "a", 5, 6, 1), sheet(lane("a"), tempo=rising))


class OpenGapInALane(unittest.TestCase):
    def opened(self, made, at, many, name="a", new=77):
        found = open_gap(made, name, at, many, new)
        assert_sheet(self, found)
        self.assertTrue(unchanged(open_gap, made, name, at, many, new))
        self.assertEqual((found[0], found[1]), (made[0], made[1]))
        return found

    def test_at_a_begin_nothing_is_parted(self):
        made = sheet(lane("a", piece(7, at=5, shape=RISE)), lane("b", piece(8, at=7)), tempo=TEMPO)
        for at in (0, 3, 4, 5):
            self.assertEqual(self.opened(made, at, 6)[2], (lane("a", piece(7, at=11, shape=RISE)), made[2][1]))

    def test_at_an_end_and_behind_all_nothing_is_moved(self):
        made = sheet(lane("a", piece(7, at=5, shape=RISE)), tempo=TEMPO)
        for at in (9, 10, 99999, 100000):
            self.assertEqual(self.opened(made, at, 6), made)
            self.assertEqual(self.opened(made, at, 100000), made)

    def test_within_a_piece(self):
        found = self.opened(SHEET, 7, 10)
        self.assertEqual(numbers_in(found), [[3], [5, 7, 77, 9, 78], []])
        self.assertEqual(piece_in(found, 7), piece(7, at=5, many=2, start=10, speed=HALF, shape=shape_of((0, 1), (2, 3))))
        self.assertEqual(piece_in(found, 77), piece(77, at=17, many=2, start=11, speed=HALF, shape=shape_of((0, 3), (2, 2))))
        self.assertEqual(piece_in(found, 9), piece(9, at=3, many=4))
        self.assertEqual(piece_in(found, 78), piece(78, at=17, many=5, start=4))
        self.assertEqual(piece_in(found, 5), piece(5, at=30))
        self.assertEqual(found[2][0], SHEET[2][0])

    def test_a_free_piece(self):
        for at, start in [(3, Fraction(17, 8)), (4, Fraction(7, 2)), (5, 4)]:
            found = self.opened(FREED, at, 3)
            self.assertEqual(piece_in(found, 7)[:7], (7, "b", 2, at - 2, "free", (1, 1), (1, 2)))
            self.assertEqual(piece_in(found, 77)[:7], (77, "b", at + 3, 6 - at, "free", told(start), (1, 2)))

    def test_shapes_of_twelve_corners(self):
        made = sheet(lane("a", piece(7, at=4, many=14, shape=TWELVE)))
        for at in range(5, 18):
            found = self.opened(made, at, 2)
            self.assertEqual(found, move(cut(made, 7, at, 77), 77, 2))
            self.assertLessEqual(max([len(one[7]) for one in found[2][0][3]]), 12)

    def test_as_by_other_deeds(self):
        r = Random(32)
        for made in some_sheets(60, 3300):
            at, many = r.randint(0, 18), r.randint(1, 6)
            for name in names_of(made):
                found = open_gap(made, name, at, many, 20)
                self.assertEqual(found, by_other_deeds(made, [name], 20, gap_there(at, many)))
                back = cut_out(found, name, at, at + many, 50)
                assert_sheet(self, back)
                self.assertEqual(unlike(made, back, (0, 1), (20, 1)), [])


class OpenGapInAll(unittest.TestCase):
    def tempo_opened(self, tempo, at, many):
        return open_gap(sheet(lane("a"), tempo=tempo), None, at, many, 77)[0]

    def test_all_lanes(self):
        found = open_gap(SHEET, None, 4, 10, 77)
        assert_sheet(self, found)
        self.assertTrue(unchanged(open_gap, SHEET, None, 4, 10, 77))
        self.assertEqual(numbers_in(found), [[3, 77], [5, 7, 9, 78], []])
        self.assertEqual(piece_in(found, 77), piece(77, "b", at=14, many=1, start=3))
        self.assertEqual(piece_in(found, 7), piece(7, at=15, start=10, speed=HALF, shape=RISE))
        self.assertEqual(piece_in(found, 78), piece(78, at=14, many=8, start=1))
        self.assertEqual([row[:3] for row in found[2]], [row[:3] for row in SHEET[2]])

    def test_how_long_the_new_steps_last(self):
        for at, many, stretches in [
                (0, 2, [(2, 1, 1), (4, 1, 3), (3, 1, 1)]), (1, 5, [(1, 1, 3 * HALF), (5, 3 * HALF, 3 * HALF),
                                                                  (3, 3 * HALF, 3), (3, 1, 1)]),
                (3, 1, [(3, 1, 5 * HALF), (1, 5 * HALF, 5 * HALF), (1, 5 * HALF, 3), (3, 1, 1)]),
                (4, 7, [(4, 1, 3), (10, 1, 1)]), (5, 7, [(4, 1, 3), (10, 1, 1)]),
                # Behind the last stretch they rest, and go.
                (7, 3, [(4, 1, 3), (3, 1, 1)]), (8, 100000, [(4, 1, 3), (3, 1, 1)]), (100000, 1, [(4, 1, 3), (3, 1, 1)])]:
            self.assertEqual(self.tempo_opened(TEMPO, at, many), tempo_of(2, *stretches))
        self.assertEqual(self.tempo_opened(PLAIN, 3, 9), PLAIN)

    def test_between_two_stretches_that_jump(self):
        tempo = tempo_of(9, (2, 4, 5), (2, 7, 8))
        self.assertEqual(self.tempo_opened(tempo, 2, 3), tempo_of(9, (2, 4, 5), (3, 7, 7), (2, 7, 8)))
        self.assertEqual(self.tempo_opened(tempo, 4, 3), tempo)

    def test_step_by_step_and_cut_out_again(self):
        r = Random(33)
        for _ in range(300):
            tempo = some_tempo(r)
            at, many = r.randint(0, 20), r.randint(1, 6)
            made = open_gap(sheet(tempo=tempo), None, at, many, 1)
            steps = single_steps(tempo, at + 1)
            steps[at:at] = [(steps[at][0], steps[at][0])] * many
            self.assertEqual(made[0], of_single_steps(steps, tempo[1]))
            for step in range(40):
                if not at <= step < at + many:
                    self.assertEqual(length_of(made[0], step), length_of(tempo, step if step < at else step - many))
            self.assertEqual(cut_out(made, None, at, at + many, 1)[0], tempo)

    def test_a_gap_cut_out_again_is_heard_as_it_was(self):
        r = Random(34)
        for made in some_sheets(60, 3400):
            at, many = r.randint(0, 18), r.randint(1, 6)
            found = open_gap(made, None, at, many, 20)
            assert_sheet(self, found)
            self.assertEqual(found[1:], by_other_deeds(made, names_of(made), 20, gap_there(at, many))[1:])
            for part in range(50):
                where = Fraction(part, 3)
                now = where if where < at else where + many
                self.assertEqual(heard_at(found, told(now)), heard_at(made, told(where)))
            for part in range(3 * at, 3 * (at + many)):
                self.assertEqual(heard_at(found, told(Fraction(part, 3))), (0, 1))
            back = cut_out(found, None, at, at + many, 50)
            self.assertEqual(back[0], made[0])
            self.assertEqual(unlike(made, back, (0, 1), (30, 1)), [])

    def test_two_hundred_thousand_steps_and_more(self):
        long = tempo_of(1, (100000, 1, 3))
        self.assertEqual(self.tempo_opened(long, 7, 100000)[0][1][0], 100000)
        long = tempo_of(1, (100001, 1, 3))
        self.assertEqual(sum([part[0] for part in self.tempo_opened(long, 7, 99999)[0]]), 200000)
        for at in (0, 7, 100000):
            assert_refused(self, TooMany, open_gap, sheet(tempo=long), None, at, 100000, 1)
        full = sheet(lane("a"), tempo=tempo_of(1, (200000, 1, 3)))
        for at, many in [(0, 1), (100000, 1), (100000, 100000)]:
            assert_refused(self, TooMany, open_gap, full, None, at, many, 1)
        self.assertEqual(open_gap(full, "a", 0, 100000, 1), full)
        # What comes to rest throughout isn't counted.
        self.assertEqual(self.tempo_opened(tempo_of(1, (60000, 1, 3)), 100000, 100000)[0][0][0], 60000)
        self.assertEqual(self.tempo_opened(tempo_of(1, (60000, 1, 3)), 60000, 100000)[0][0][0], 60000)

    def test_twenty_four_stretches_and_more(self):
        self.assertEqual(len(self.tempo_opened(jumps(24), 5, 6)[0]), 24)
        self.assertEqual(len(self.tempo_opened(jumps(24), 10, 6)[0]), 24)
        rising = tempo_of(9, *[(10, 1 + k % 2, 5 + k % 2) for k in range(22)])
        self.assertEqual(len(self.tempo_opened(rising, 5, 6)[0]), 24)
        self.assertEqual(len(self.tempo_opened(rising, 10, 6)[0]), 23)
        rising = tempo_of(9, *[(10, 1 + k % 2, 5 + k % 2) for k in range(23)])
        self.assertEqual(len(self.tempo_opened(rising, 10, 6)[0]), 24)
        assert_refused(self, TooMany, open_gap, sheet(tempo=rising), None, 5, 6, 1)
        rising = tempo_of(9, *[(10, 1 + k % 2, 5 + k % 2) for k in range(24)])
        for at in (0, 10, 230, 235):
            assert_refused(self, TooMany, open_gap, sheet(tempo=rising), None, at, 1, 1)
        self.assertEqual(self.tempo_opened(rising, 240, 1), rising)


class NewNumbers(unittest.TestCase):
    def setUp(self):
        self.made = sheet(lane("b", piece(30, many=10), piece(20, at=4), piece(10, many=10)),
                          lane("a", piece(40, many=10), piece(50, many=3)), lane("c", piece(60, many=10)))

    def test_lane_by_lane_the_lowest_first(self):
        for ask, things in [(cut_out, (None, 5, 7)), (open_gap, (None, 5, 7))]:
            self.assertEqual(numbers_in(ask(self.made, *things, 100)),
                             [[30, 100, 20, 101, 10, 102], [40, 103, 50], [60, 104]])
            self.assertEqual(numbers_in(ask(self.made, *things, 1)), [[30, 1, 20, 2, 10, 3], [40, 4, 50], [60, 5]])
            self.assertEqual(numbers_in(ask(self.made, *things, 99995)),
                             [[30, 99995, 20, 99996, 10, 99997], [40, 99998, 50], [60, 99999]])

    def test_one_that_is_needed_is_there_ahead(self):
        for ask in (cut_out, open_gap):
            for new in (6, 7, 8, 9, 10, 16, 20, 26, 30, 40, 50, 56, 60):
                assert_refused(self, Taken, ask, self.made, None, 5, 7, new)
            for new in (5, 11, 15, 21, 25, 31, 35, 45, 51, 55, 61):
                self.assertEqual(len(sum(numbers_in(ask(self.made, None, 5, 7, new)), [])), 11)
        # One that is gone behind the deed was there ahead of it.
        made = sheet(lane("a", piece(1, many=10), piece(2, at=5, many=2)))
        assert_refused(self, Taken, cut_out, made, "a", 5, 7, 2)
        assert_refused(self, Taken, cut_out, made, "a", 5, 7, 1)
        self.assertEqual(numbers_in(cut_out(made, "a", 5, 7, 3)), [[1, 3]])

    def test_those_that_are_not_needed_do_not_count(self):
        for ask in (cut_out, open_gap):
            self.assertEqual(len(numbers_in(ask(self.made, "c", 5, 7, 99999))[2]), 2)
            self.assertEqual(len(numbers_in(ask(self.made, "c", 5, 7, 19))[2]), 2)
            self.assertEqual(numbers_in(ask(self.made, None, 20, 27, 10)), numbers_in(self.made))

    def test_beyond_the_last_number(self):
        for ask in (cut_out, open_gap):
            for new in (99996, 99997, 99998, 99999):
                assert_refused(self, Taken, ask, self.made, None, 5, 7, new)

    def test_sixty_pieces_and_one_more(self):
        for ask in (cut_out, open_gap):
            made = sheet(lane("a", *[piece(n, at=5) for n in range(1, 58)]), lane("b", piece(58, many=9)))
            self.assertEqual(len(sum(numbers_in(ask(made, "b", 2, 3, 77)), [])), 59)
            self.assertEqual(len(sum(numbers_in(ask(made, None, 2, 3, 77)), [])), 59)
            assert_refused(self, TooMany, ask, of_sixty(), "a", 1, 2, 77)
            assert_refused(self, TooMany, ask, of_sixty(31), None, 2, 3, 77)
            assert_refused(self, Taken, ask, of_sixty(), "a", 1, 2, 60)
            assert_refused(self, TooMany, ask, of_sixty(), "a", 1, 2, 61)
            assert_refused(self, Taken, ask, of_sixty(), "a", 1, 2, 99999)
            for new in NO_NUMBERS:
                assert_refused(self, NoPiece, ask, of_sixty(), "a", 1, 2, new)


class Refusals(unittest.TestCase):
    def test_no_lane(self):
        for thing in LANED:
            assert_refused(self, NoLane, cut_out, SHEET, thing, 1, 2, 77)
            assert_refused(self, NoLane, open_gap, SHEET, thing, 1, 2, 77)

    def test_no_step(self):
        for lane_name in ("a", None):
            for thing in NO_WHOLES + [-1, 3, 4, -10 ** 60]:
                assert_refused(self, NoStep, cut_out, SHEET, lane_name, thing, 3, 77)
            for thing in NO_WHOLES + [1, 0, -1, 100001, 10 ** 60]:
                assert_refused(self, NoStep, cut_out, SHEET, lane_name, 1, thing, 77)
            for thing in NO_WHOLES + [-1, 100001, 10 ** 60]:
                assert_refused(self, NoStep, open_gap, SHEET, lane_name, thing, 1, 77)
            for thing in NO_WHOLES + [-1, 0, 100001, 10 ** 60]:
                assert_refused(self, NoStep, open_gap, SHEET, lane_name, 100000, thing, 77)

    def test_no_piece_also_where_none_is_needed(self):
        for thing in NO_NUMBERS:
            for lane_name in ("a", "c", None):
                assert_refused(self, NoPiece, cut_out, SHEET, lane_name, 6, 8, thing)
                assert_refused(self, NoPiece, cut_out, SHEET, lane_name, 60, 80, thing)
                assert_refused(self, NoPiece, open_gap, SHEET, lane_name, 6, 8, thing)
                assert_refused(self, NoPiece, open_gap, SHEET, lane_name, 60, 80, thing)

    def test_no_place(self):
        made = sheet(lane("a", piece(7, at=99990)), lane("b", piece(8)), tempo=TEMPO)
        self.assertEqual(piece_in(open_gap(made, "a", 5, 6, 77), 7), piece(7, at=99996))
        for lane_name in ("a", None):
            for at, many in [(5, 7), (99990, 7), (99991, 100000), (0, 100000)]:
                assert_refused(self, NoPlace, open_gap, made, lane_name, at, many, 77)
        assert_sheet(self, open_gap(made, "b", 0, 99996, 77))
        assert_refused(self, NoPlace, open_gap, made, "b", 0, 99997, 77)

    def test_too_many_pieces_no_place_too_many_stretches(self):
        far = piece(99, at=99990)
        rising = tempo_of(9, *[(10, 1 + k % 2, 5 + k % 2) for k in range(24)])
        pieces = [piece(n) for n in range(1, 60)]
        # A sixty-first piece, beyond the last step, and more stretches than may be.
        made = sheet(lane("a", *pieces, far), tempo=rising)
        assert_refused(self, TooMany, open_gap, made, None, 2, 100000, 200)
        # Beyond the last step, and more stretches than may be.
        made = sheet(lane("a", far), tempo=rising)
        assert_refused(self, NoPlace, open_gap, made, None, 2, 100000, 200)
        assert_refused(self, TooMany, open_gap, made, None, 2, 1, 200)
        # A number that is taken, or is none, goes ahead of all of these.
        made = sheet(lane("a", *pieces, far), tempo=rising)
        assert_refused(self, Taken, open_gap, made, None, 2, 100000, 5)
        assert_refused(self, NoPiece, open_gap, made, None, 2, 100000, 0)

    def test_first_goes_first(self):
        dues = [(NoSheet, {0: None}), (NoLane, {1: "d"}), (NoStep, {2: -1}), (NoStep, {3: 100001}), (NoPiece, {4: 0}),
                (Taken, {4: 3})]
        assert_first_goes_first(self, cut_out, [SHEET, "a", 6, 8, 77], dues)
        assert_first_goes_first(self, cut_out, [SHEET, None, 6, 8, 77], dues)
        assert_first_goes_first(self, open_gap, [SHEET, "a", 6, 8, 77], dues)
        assert_first_goes_first(self, open_gap, [SHEET, None, 6, 8, 77], dues)
        for ask in (cut_out, open_gap):
            assert_no_sheets_first(self, ask, "a", 6, 8, 77)
            assert_no_sheets_first(self, ask, None, 6, 8, 77)

    def test_the_first_step_goes_ahead_of_how_many(self):
        # Both are refused alike; what is behind them is not looked at.
        assert_refused(self, NoStep, open_gap, SHEET, None, None, None, None)
        assert_refused(self, NoStep, cut_out, SHEET, None, None, None, None)
        assert_refused(self, NoLane, cut_out, SHEET, 0, None, None, None)

    def test_flat_levels_stay_flat(self):
        made = sheet(lane("a", piece(7, many=9, shape=flat(9, 3))))
        self.assertEqual([one[7] for one in cut_out(made, "a", 2, 4, 8)[2][0][3]], [flat(2, 3), flat(5, 3)])
        self.assertEqual([one[7] for one in open_gap(made, "a", 2, 4, 8)[2][0][3]], [flat(2, 3), flat(7, 3)])


if __name__ == "__main__":
    unittest.main()
