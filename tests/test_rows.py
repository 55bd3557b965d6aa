import unittest
from fractions import Fraction
from itertools import pairwise

from beatlanes.errors import NoMoment, NoSheet
from beatlanes.heard import heard
from beatlanes.rows import rows_heard, unlike
from beatlanes.tempo import moment_of
from tests.makings import PLAIN, lane, piece, shape_of, sheet, some_sheets, tempo_of
from tests.reckoning import Reckoned
from tests.test_heard import ONE
from tests.things import ANYTHING, NOT_FROM_NOUGHT, assert_first_goes_first, assert_refused, is_plainly_told, lines_run
from tests.things import told, unchanged, worth

EVEN = tempo_of(2, (4, 1, 3))
JUMPS = tempo_of(2, (2, 1, 1), (3, 3, 3))
SILENT = sheet()
HUM = ("a", (1, 2, 2, 4))


def row(begin, end, first, last):
    return (told(begin), told(end), told(first), told(last))


def rows(made, first, last):
    return rows_heard(made, told(first), told(last))


def alone(*pieces, tempo=PLAIN, takes=(HUM, ("b", (7,)))):
    return sheet(lane("a", *pieces), tempo=tempo, takes=takes)


def on_row(one, moment):
    begin, end, first, last = [worth(part) for part in one]
    return first + (last - first) * (moment - begin) / (end - begin)


class Rows(unittest.TestCase):
    def test_nothing_is_heard(self):
        self.assertEqual(rows(SILENT, 0, 400), [row(0, 400, 0, 0)])
        self.assertEqual(rows(SILENT, Fraction(1, 3), Fraction(1, 2)), [row(Fraction(1, 3), Fraction(1, 2), 0, 0)])
        self.assertEqual(rows(sheet(lane("a", piece(1), silent=1), lane("b", piece(2), gain=0)), 0, 9), [row(0, 9, 0, 0)])

    def test_jumps_at_ends_of_pieces_and_at_tones(self):
        self.assertEqual(rows(alone(piece(1, at=1, many=5)), 0, 9),
                         [row(0, 1, 0, 0), row(1, 2, 1, 1), row(2, 4, 2, 2), row(4, 5, 4, 4), row(5, 9, 0, 0)])

    def test_corners(self):
        made = alone(piece(1, "b", many=6, speed=Fraction(1, 9), shape=shape_of((0, 0), (2, 1), (3, 1), (6, 0))))
        self.assertEqual(rows(made, 0, 7), [row(0, 2, 0, 7), row(2, 3, 7, 7), row(3, 6, 7, 0), row(6, 7, 0, 0)])
        self.assertEqual(rows(made, 1, Fraction(5, 2)), [row(1, 2, Fraction(7, 2), 7), row(2, Fraction(5, 2), 7, 7)])

    def test_as_few_as_can_be(self):
        # Equal tones side by side, a piece that goes on where another one ends, one hidden below another one.
        self.assertEqual(rows(alone(piece(1, start=1, many=2)), 0, 2), [row(0, 2, 2, 2)])
        made = alone(piece(1, "b", many=2, speed=Fraction(1, 9), shape=shape_of((0, 0), (2, 2))),
                     piece(2, "b", at=2, many=3, speed=Fraction(1, 9), shape=shape_of((0, 2), (3, 5))))
        self.assertEqual(rows(made, 0, 5), [row(0, 5, 0, 35)])
        made = alone(piece(1, many=9), piece(2, "b", many=9, speed=Fraction(1, 9)))
        self.assertEqual(rows(made, 0, 9), [row(0, 9, 7, 7)])

    def test_lanes_that_make_up_for_one_another(self):
        takes = (("a", (1,)), ("b", (-1,)))
        made = sheet(lane("a", piece(1, many=4, speed=Fraction(1, 9), shape=shape_of((0, 0), (2, 4), (4, 0)))),
                     lane("b", piece(2, "b", many=4, speed=Fraction(1, 9), shape=shape_of((0, 0), (2, 4), (4, 0)))),
                     takes=takes)
        self.assertEqual(rows(made, 0, 9), [row(0, 9, 0, 0)])
        made = sheet(lane("a", piece(1, many=2, speed=Fraction(1, 9)), piece(2, "b", at=2, many=2, speed=Fraction(1, 9))),
                     lane("b", piece(3, "b", many=2, speed=Fraction(1, 9)), piece(4, at=2, many=2, speed=Fraction(1, 9))),
                     takes=takes)
        self.assertEqual(rows(made, 0, 9), [row(0, 9, 0, 0)])

    def test_a_bend_without_a_jump_and_a_jump_without_a_bend(self):
        made = alone(piece(1, "b", many=4, speed=Fraction(1, 9), shape=shape_of((0, 1), (2, 1), (4, 3))))
        self.assertEqual(rows(made, 0, 4), [row(0, 2, 7, 7), row(2, 4, 7, 21)])
        made = alone(piece(1, "b", many=2, speed=Fraction(1, 9), shape=shape_of((0, 0), (2, 2))),
                     piece(2, "b", at=2, many=2, speed=Fraction(1, 9), shape=shape_of((0, 0), (2, 2))))
        self.assertEqual(rows(made, 0, 4), [row(0, 2, 0, 14), row(2, 4, 0, 14)])
        # Of like slope, and of like height, but not both.
        made = alone(piece(1, "b", many=2, speed=Fraction(1, 9), shape=shape_of((0, 0), (2, 2))),
                     piece(2, "b", at=2, many=2, speed=Fraction(1, 9), shape=shape_of((0, 2), (2, 0))))
        self.assertEqual(rows(made, 0, 4), [row(0, 2, 0, 14), row(2, 4, 14, 0)])

    def test_straight_in_time_not_in_steps(self):
        fade = piece(1, "b", many=6, speed=Fraction(1, 9), shape=shape_of((0, 0), (6, 6)))
        # By an even change each step has a line of its own, behind it they are one.
        self.assertEqual(rows(alone(fade, tempo=EVEN), 0, 12),
                         [row(0, Fraction(5, 4), 0, 7), row(Fraction(5, 4), 3, 7, 14), row(3, Fraction(21, 4), 14, 21),
                          row(Fraction(21, 4), 8, 21, 28), row(8, 12, 28, 42)])
        self.assertEqual(rows(alone(fade, tempo=JUMPS), 0, 13), [row(0, 2, 0, 14), row(2, 11, 14, 35), row(11, 13, 35, 42)])
        # The last step may be there in part alone.
        self.assertEqual(rows(alone(fade, tempo=JUMPS), 1, Fraction(5, 2)),
                         [row(1, 2, 7, 14), row(2, Fraction(5, 2), 14, Fraction(91, 6))])
        self.assertEqual(rows(alone(fade, tempo=JUMPS), Fraction(3, 2), Fraction(5, 2)),
                         [row(Fraction(3, 2), 2, Fraction(21, 2), 14), row(2, Fraction(5, 2), 14, Fraction(91, 6))])
        # A level that stays is one line whatever the steps last.
        flat = piece(1, "b", many=6, speed=Fraction(1, 9))
        self.assertEqual(rows(alone(flat, tempo=EVEN), 0, 12), [row(0, 12, 7, 7)])
        # Corners may make up for a jump of the tempo.
        tempo = tempo_of(2, (2, 1, 1))
        bent = piece(1, "b", many=4, speed=Fraction(1, 9), shape=shape_of((0, 0), (2, 2), (4, 6)))
        self.assertEqual(rows(alone(bent, tempo=tempo), 0, 6), [row(0, 6, 0, 42)])

    def test_within_a_step(self):
        made = alone(piece(1, many=1, way="free", speed=8), tempo=EVEN)
        self.assertEqual(rows(made, 0, 1),
                         [row(0, Fraction(1, 8), 1, 1), row(Fraction(1, 8), Fraction(3, 8), 2, 2),
                          row(Fraction(3, 8), Fraction(1, 2), 4, 4), row(Fraction(1, 2), 1, 0, 0)])
        self.assertEqual(rows(made, Fraction(1, 5), Fraction(3, 8)), [row(Fraction(1, 5), Fraction(3, 8), 2, 2)])
        self.assertEqual(rows(made, Fraction(1, 8), Fraction(1, 4)), [row(Fraction(1, 8), Fraction(1, 4), 2, 2)])

    def test_many_sheets_step_by_step(self):
        for seed, made in enumerate(some_sheets(60, 1100)):
            by_steps = Reckoned(made)
            first, last = [(Fraction(0), Fraction(30)), (Fraction(7, 5), Fraction(29, 3)), (Fraction(2), Fraction(9, 4))][seed % 3]
            found = rows(made, first, last)
            self.assertEqual((found[0][0], found[-1][1]), (told(first), told(last)))
            for one, behind in pairwise(found):
                self.assertEqual(one[1], behind[0])
                goes_on = on_row(one, worth(behind[1])) == worth(behind[3])
                self.assertFalse(one[3] == behind[2] and goes_on, (one, behind))
            bends = by_steps.bends(first, last)
            self.assertLessEqual({worth(one[0]) for one in found}, set(bends))
            for begin, end in pairwise(bends):
                one = [one for one in found if worth(one[0]) <= begin < worth(one[1])][0]
                self.assertLessEqual(end, worth(one[1]))
                for moment in (begin, (begin + end) / 2, (begin + 9 * end) / 10):
                    self.assertEqual(on_row(one, moment), by_steps.heard(moment))

    def test_what_is_heard_at_the_first_moment_of_each(self):
        for made in some_sheets(20, 1200):
            for begin, _, first, _ in rows(made, 1, 20):
                self.assertEqual(heard(made, begin), first)

    def test_refusals(self):
        for thing in NOT_FROM_NOUGHT:
            assert_refused(self, NoMoment, rows_heard, ONE, thing, (5, 1))
            assert_refused(self, NoMoment, rows_heard, ONE, (0, 1), thing)
            assert_refused(self, NoMoment, unlike, ONE, ONE, thing, (5, 1))
            assert_refused(self, NoMoment, unlike, ONE, ONE, (0, 1), thing)
        for first, last in [(1, 1), (2, 1), (Fraction(1, 2), Fraction(1, 3)), (0, 0)]:
            assert_refused(self, NoMoment, rows_heard, ONE, told(first), told(last))
            assert_refused(self, NoMoment, unlike, ONE, ONE, told(first), told(last))

    def test_spans_of_four_hundred_steps_at_most(self):
        tempo = tempo_of(2, (4, 1, 3), (300, Fraction(1, 7), Fraction(1, 9)))
        made = sheet(tempo=tempo)
        for at in [0, 3, Fraction(5, 3), 250, 10000, 199599]:
            first = moment_of(tempo, told(at))
            last = moment_of(tempo, told(at + 400))
            self.assertEqual(rows_heard(made, first, last), [(first, last, (0, 1), (0, 1))])
            for more in [1, Fraction(1, 1000), Fraction(1, 10 ** 12)]:
                assert_refused(self, NoMoment, rows_heard, made, first, moment_of(tempo, told(at + 400 + more)))

    def test_places_below_two_hundred_thousand(self):
        made = sheet(tempo=tempo_of(3))
        self.assertEqual(len(rows(made, 3 * 199999, 3 * 200000 - Fraction(1, 7))), 1)
        for first, last in [(3 * 199999, 3 * 200000), (3 * 200000 - 1, 3 * 200000), (3 * 200000, 3 * 200001),
                            (10 ** 60, 10 ** 60 + 1)]:
            assert_refused(self, NoMoment, rows_heard, made, told(first), told(last))
            assert_refused(self, NoMoment, unlike, made, SILENT, told(first), told(last))
        made = sheet(tempo=tempo_of(1, (200000, 1, 3)))
        self.assertEqual(len(rows(made, 399999 - 3, 399999)), 1)
        assert_refused(self, NoMoment, rows_heard, made, (399999, 1), (400000, 1))

    def test_first_goes_first(self):
        assert_first_goes_first(self, rows_heard, [ONE, (0, 1), (400, 1)],
                                [(NoSheet, {0: None}), (NoMoment, {1: (-1, 1)}), (NoMoment, {2: (0, 1)})])
        for thing in ANYTHING + [ONE[:2], list(ONE), (ONE[0], (), ONE[2])]:
            assert_refused(self, NoSheet, rows_heard, thing, (0, 1), (1, 1))
            assert_refused(self, NoSheet, rows_heard, thing, None, None)

    def test_lists_are_new_ones(self):
        found = rows(ONE, 3, 5)
        told_first = list(found)
        found.pop()
        found.insert(0, None)
        self.assertEqual(rows(ONE, 3, 5), told_first)
        self.assertTrue(unchanged(rows_heard, ONE, (3, 1), (5, 1)))
        self.assertTrue(is_plainly_told(rows(ONE, 3, 5)))

    def test_at_once(self):
        takes = (("a", tuple(range(200))),)
        lanes = [lane("abcdefghijkl"[k], *[piece(5 * k + n, at=n * 9000, many=9100, way="free", speed=Fraction(1, 100))
                                           for n in range(1, 6)]) for k in range(12)]
        tempo = tempo_of(Fraction(1, 3), (99999, Fraction(1, 3), Fraction(7, 5)), (100000, Fraction(9, 4), Fraction(1, 8)))
        made = sheet(*lanes, tempo=tempo, takes=takes)
        early = moment_of(tempo, (9000, 1)), moment_of(tempo, (9010, 1))
        late = moment_of(tempo, (45000, 1)), moment_of(tempo, (45010, 1))
        self.assertLess(lines_run(rows_heard, made, *late), 2 * lines_run(rows_heard, made, *early))


class Unlike(unittest.TestCase):
    def spans(self, one, other, first=0, last=20):
        return [tuple(worth(part) for part in span) for span in unlike(one, other, told(first), told(last))]

    def test_nothing(self):
        self.assertEqual(self.spans(ONE, ONE), [])
        self.assertEqual(self.spans(SILENT, sheet(lane("a"), lane("b", piece(1), silent=1))), [])

    def test_what_is_heard_alike_of_unlike_sheets(self):
        whole = alone(piece(1, many=4, start=Fraction(1, 2)))
        parted = alone(piece(1, many=2, start=Fraction(1, 2)), piece(2, at=2, many=2, start=Fraction(5, 2)))
        self.assertEqual(self.spans(whole, parted), [])
        self.assertEqual(self.spans(sheet(lane("a", piece(1))), sheet(lane("z"), lane("b", piece(9)))), [])

    def test_pieces_that_are_there_in_one_alone(self):
        made = alone(piece(1, "b", at=2, many=3, speed=Fraction(1, 9)), piece(2, "b", at=7, many=2, speed=Fraction(1, 9)))
        self.assertEqual(self.spans(made, SILENT), [(2, 5), (7, 9)])
        self.assertEqual(self.spans(SILENT, made), [(2, 5), (7, 9)])
        self.assertEqual(self.spans(made, SILENT, 3, 8), [(3, 5), (7, 8)])
        self.assertEqual(self.spans(made, SILENT, 5, 7), [])

    def test_as_long_as_can_be(self):
        made = alone(piece(1, many=5))
        self.assertEqual(self.spans(made, SILENT), [(0, 4)])
        side = alone(piece(1, "b", many=2, speed=Fraction(1, 9)), piece(2, "b", at=2, many=2, start=Fraction(1, 2),
                                                                       speed=Fraction(1, 9)))
        self.assertEqual(self.spans(side, SILENT), [(0, 4)])

    def test_tones_in_the_midst_that_are_alike(self):
        one = alone(piece(1, many=4))
        other = alone(piece(1, many=4), takes=(("a", (5, 2, 2, 5)), ("b", (7,))))
        self.assertEqual(self.spans(one, other), [(0, 1), (3, 4)])

    def test_single_moments_do_not_count(self):
        rising = alone(piece(1, "b", many=4, speed=Fraction(1, 9), shape=shape_of((0, 0), (4, 4))))
        falling = alone(piece(1, "b", many=4, speed=Fraction(1, 9), shape=shape_of((0, 4), (4, 0))))
        peak = alone(piece(1, "b", many=4, speed=Fraction(1, 9), shape=shape_of((0, 0), (2, 2), (4, 0))))
        # They cross in the midst, at moment 2; they touch there or at an end.
        self.assertEqual(self.spans(rising, falling), [(0, 4)])
        self.assertEqual(self.spans(peak, falling), [(0, 2)])
        self.assertEqual(self.spans(peak, rising), [(2, 4)])
        self.assertEqual(self.spans(rising, SILENT), [(0, 4)])
        self.assertEqual(self.spans(peak, alone(piece(1, "b", many=4, speed=Fraction(1, 9), shape=shape_of((0, 2), (4, 2))))),
                         [(0, 4)])
        touching = alone(piece(1, "b", many=4, speed=Fraction(1, 9), shape=shape_of((0, 2), (2, 0), (4, 2))))
        self.assertEqual(self.spans(touching, SILENT), [(0, 4)])

    def test_one_span_beside_another_one_that_only_touch(self):
        # Heard alike from 2 to 3, and at the single moment 5.
        one = alone(piece(1, "b", many=7, speed=Fraction(1, 9), shape=shape_of((0, 2), (2, 0), (3, 0), (4, 1), (5, 0), (7, 2))))
        self.assertEqual(self.spans(one, SILENT), [(0, 2), (3, 7)])

    def test_lines_of_which_one_goes_further(self):
        slope = shape_of((0, 1), (8, 17))
        for n in range(1, 8):
            one = alone(piece(1, "b", many=8, speed=Fraction(1, 9), shape=slope))
            begin = alone(piece(1, "b", many=n, speed=Fraction(1, 9), shape=shape_of((0, 1), (n, 1 + 2 * n))))
            end = alone(piece(1, "b", at=n, many=8 - n, speed=Fraction(1, 9), shape=shape_of((0, 1 + 2 * n), (8 - n, 17))))
            for other, spans in [(begin, [(n, 8)]), (end, [(0, n)])]:
                self.assertEqual(self.spans(one, other), spans)
                self.assertEqual(self.spans(other, one), spans)
                self.assertEqual(self.spans(other, one, Fraction(1, 2), 20), [(max(a, Fraction(1, 2)), b) for a, b in spans])
        # What is heard is the very number of the moment.
        one = alone(piece(1, many=4, speed=Fraction(1, 9), shape=shape_of((0, 0), (4, 4))))
        self.assertEqual(self.spans(one, alone(piece(1, many=2, speed=Fraction(1, 9), shape=shape_of((0, 0), (2, 2))))), [(2, 4)])

    def test_tempos(self):
        bound = sheet(lane("a", piece(1, "b", many=4, speed=Fraction(1, 2))), tempo=PLAIN)
        slower = sheet(lane("a", piece(1, "b", many=4, speed=Fraction(1, 2))), tempo=tempo_of(2))
        # 100 up to 2 and 0 up to 4; 100 up to 4 and 0 up to 8.
        self.assertEqual(self.spans(bound, slower), [(2, 4)])
        behind = sheet(lane("a", piece(1, "b", many=4, speed=Fraction(1, 2))), tempo=tempo_of(7, (4, 1, 1)))
        self.assertEqual(self.spans(bound, behind), [])

    def test_many_sheets_step_by_step(self):
        pairs = list(pairwise(some_sheets(50, 1300)))
        pairs += [(one, (one[0], one[1], one[2][::-1])) for one in some_sheets(10, 1350)]
        pairs += [(one, (one[0], one[1], one[2][:-1])) for one in some_sheets(20, 1400)]
        for one, other in pairs:
            first, last = Fraction(2, 3), Fraction(25)
            found = self.spans(one, other, first, last)
            a, b = Reckoned(one), Reckoned(other)
            borders = sorted(set(a.bends(first, last) + b.bends(first, last)))
            spans = []
            for begin, end in pairwise(borders):
                middles = [begin + (end - begin) / k for k in (2, 3)]
                if any([a.heard(moment) != b.heard(moment) for moment in middles]):
                    if spans and spans[-1][1] == begin:
                        begin = spans.pop()[0]
                    spans.append((begin, end))
            self.assertEqual(found, spans)
            self.assertEqual(self.spans(other, one, first, last), spans)

    def test_the_places_of_both_sheets_count(self):
        slow, quick = sheet(tempo=tempo_of(2)), sheet(tempo=tempo_of(Fraction(1, 2)))
        self.assertEqual(unlike(slow, quick, (0, 1), (200, 1)), [])
        for pair in [(slow, quick), (quick, slow)]:
            assert_refused(self, NoMoment, unlike, *pair, (0, 1), (201, 1))
            assert_refused(self, NoMoment, unlike, *pair, (100000, 1), (100001, 1))
            self.assertEqual(unlike(*pair, (99990, 1), (99999, 1)), [])
        self.assertEqual(unlike(slow, slow, (0, 1), (800, 1)), [])

    def test_first_goes_first(self):
        good = [ONE, SILENT, (0, 1), (5, 1)]
        dues = [(NoSheet, {0: None}), (NoSheet, {1: ONE[:2]}), (NoMoment, {2: (-1, 1)}), (NoMoment, {3: (0, 1)})]
        assert_first_goes_first(self, unlike, good, dues)
        for thing in ANYTHING + [ONE[:2], list(ONE), (ONE[0], (), ONE[2])]:
            assert_refused(self, NoSheet, unlike, thing, ONE, (0, 1), (1, 1))
            assert_refused(self, NoSheet, unlike, ONE, thing, (0, 1), (1, 1))
            assert_refused(self, NoSheet, unlike, thing, thing, None, None)

    def test_lists_are_new_ones(self):
        found = unlike(ONE, SILENT, (0, 1), (20, 1))
        found.append(found[0])
        self.assertEqual(len(unlike(ONE, SILENT, (0, 1), (20, 1))), len(found) - 1)
        self.assertTrue(unchanged(unlike, ONE, SILENT, (0, 1), (20, 1)))
        self.assertTrue(is_plainly_told(unlike(ONE, SILENT, (0, 1), (20, 1))))


if __name__ == "__main__":
    unittest.main()
