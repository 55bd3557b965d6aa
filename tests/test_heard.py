import unittest
from fractions import Fraction

from beatlanes.errors import NoCount, NoLane, NoMoment, NoPiece, NoPlace, NoSheet
from beatlanes.heard import content_at, heard, heard_at, lane_at, level_at, played, runs_of, sound_at
from beatlanes.tempo import moment_of
from tests.makings import flat, lane, piece, shape_of, sheet, some_sheets, tempo_of
from tests.reckoning import Reckoned
from tests.things import ANYTHING, NO_WHOLES, NOT_ABOVE_NOUGHT, NOT_FROM_NOUGHT, all_but, assert_first_goes_first
from tests.things import assert_refused, is_plainly_told, told, unchanged, worth

NUMBERED = all_but(lambda thing: thing == 7 and type(thing) is int) + [8, 6, 99999, 100000, -7, (7, 1), "7", [7], {7: 1}]
NAMED = all_but(lambda thing: thing == "a") + ["b", "aa", "A", "a ", ("a",), ["a"], {"a": 1}, 0]

RISE = shape_of((0, 0), (2, 1), (4, Fraction(1, 2)))
JUMPS = tempo_of(2, (2, 1, 1), (3, 3, 3))
EVEN = tempo_of(2, (4, 1, 3))
ONE = sheet(lane("a", piece(7, at=3, speed=Fraction(3, 4), start=Fraction(1, 4), shape=RISE)))
FREE = sheet(lane("a", piece(7, at=3, way="free", speed=Fraction(3, 4), start=Fraction(1, 4), shape=RISE)), tempo=JUMPS)


def place(*parts):
    return told(Fraction(*parts))


def places_within(many_steps):
    """Places from 0 on, in steps, in halves and in thirds of them."""
    return sorted({told(Fraction(k, part)) for part in (1, 2, 3) for k in range(part * many_steps + 1)})


class OfAPiece(unittest.TestCase):
    def test_content_of_a_bound_piece(self):
        for x, content in [(3, (1, 4)), (Fraction(7, 2), (5, 8)), (4, (1, 1)), (Fraction(41, 6), (25, 8)),
                           (Fraction(69999, 10000), (129997, 40000))]:
            self.assertEqual(content_at(ONE, 7, place(x)), content)

    def test_content_of_a_free_piece(self):
        # It begins a step behind the jump: the moment of 3 is 5, that of 4 is 8, that of 5 is 11, that of 6 is 13.
        for x, gone in [(3, 0), (Fraction(7, 2), Fraction(3, 2)), (4, 3), (5, 6), (Fraction(11, 2), 7), (6, 8),
                        (Fraction(27, 4), Fraction(19, 2))]:
            self.assertEqual(content_at(FREE, 7, place(x)), told(Fraction(1, 4) + Fraction(3, 4) * gone))
        self.assertEqual(content_at(sheet(*ONE[2], tempo=JUMPS), 7, (4, 1)), (1, 1))

    def test_content_by_an_even_change(self):
        # Its steps last 5/4, 7/4, 9/4, 11/4, and 2 each behind them.
        made = sheet(lane("a", piece(7, at=1, many=5, way="free", speed=2)), tempo=EVEN)
        for x, gone in [(1, 0), (2, Fraction(7, 4)), (Fraction(5, 2), Fraction(23, 8)), (3, 4), (4, Fraction(27, 4)),
                        (Fraction(11, 2), Fraction(39, 4))]:
            self.assertEqual(content_at(made, 7, place(x)), told(2 * Fraction(gone)))

    def test_level(self):
        for x, level in [(3, (0, 1)), (Fraction(7, 2), (1, 4)), (4, (1, 2)), (5, (1, 1)), (Fraction(16, 3), (11, 12)),
                         (6, (3, 4)), (Fraction(699, 100), (201, 400))]:
            self.assertEqual(level_at(ONE, 7, place(x)), level)
            self.assertEqual(level_at(FREE, 7, place(x)), level)

    def test_sound(self):
        for x, sound in [(3, 0), (Fraction(7, 2), Fraction(5, 4)), (4, Fraction(-7, 2)), (5, -7),
                         (Fraction(16, 3), 3 * Fraction(11, 12)), (6, Fraction(9, 4)), (Fraction(13, 2), Fraction(15, 8)),
                         (Fraction(20, 3), 0), (Fraction(27, 4), 0)]:
            self.assertEqual(sound_at(ONE, 7, place(x)), told(sound), x)

    def test_what_it_does_not_cover(self):
        for made in (ONE, FREE):
            for x in [0, 1, 2, Fraction(299999, 100000), 7, Fraction(700001, 100000), 8, 200000, 10 ** 12, 10 ** 40]:
                self.assertIsNone(content_at(made, 7, place(x)))
                self.assertIsNone(level_at(made, 7, place(x)))
                self.assertEqual(sound_at(made, 7, place(x)), (0, 1))

    def test_the_end_is_not_covered_and_next_to_it_is(self):
        near = place(7 - Fraction(1, 10 ** 12))
        self.assertEqual(content_at(ONE, 7, near), place(Fraction(13, 4) - Fraction(3, 4 * 10 ** 12)))
        self.assertEqual(level_at(ONE, 7, near), place(Fraction(1, 2) + Fraction(1, 4 * 10 ** 12)))
        before = place(3 - Fraction(1, 10 ** 12))
        self.assertIsNone(content_at(ONE, 7, before))

    def test_contents_beyond_the_last_tone(self):
        for start, sound in [(0, 5), (Fraction(99, 100), 5), (1, -7), (2, 3), (Fraction(299, 100), 3), (3, 0), (4, 0),
                             (10 ** 12 - 1, 0)]:
            made = sheet(lane("a", piece(7, start=start, speed=Fraction(1, 1000))))
            self.assertEqual(sound_at(made, 7, (0, 1)), told(sound), start)
            self.assertEqual(content_at(made, 7, (0, 1)), told(start))

    def test_pieces_and_sheets_by_turns(self):
        # Like numbers and names in unlike sheets, and equal questions that are not the same.
        other = sheet(lane("a", piece(7, at=3, start=2), piece(8, "b", at=3, way="free")), tempo=EVEN)
        for _ in range(3):
            self.assertEqual(content_at(ONE, 7, (4, 1)), (1, 1))
            self.assertEqual(content_at(other, 7, (4, 1)), (3, 1))
            self.assertEqual(content_at(other, 8, (4, 1)), (11, 4))
            self.assertEqual(content_at(FREE, 7, (4, 1)), (5, 2))
            self.assertEqual(sound_at(other, 8, (4, 1)), (-20, 1))
            self.assertEqual(sound_at(ONE, 7, (4, 1)), (-7, 2))
            self.assertEqual(heard_at(other, (4, 1)), (-20, 1))
            self.assertEqual(heard_at(ONE, (4, 1)), (-7, 2))
            assert_refused(self, NoPiece, content_at, ONE, 8, (4, 1))
            assert_refused(self, NoPlace, content_at, ONE, 7, (True, 1))
            self.assertEqual(content_at(sheet(lane("a", piece(1))), 1, (1, 1)), (1, 1))
            assert_refused(self, NoPiece, content_at, sheet(lane("a", piece(1))), True, (1, 1))

    def test_many_sheets_step_by_step(self):
        for made in some_sheets(25):
            by_steps = Reckoned(made)
            for row in made[2]:
                for one in row[3]:
                    for x in places_within(20):
                        where = worth(x)
                        content, level = None, None
                        if by_steps.covers(one, where):
                            content, level = told(by_steps.content(one, where)), told(by_steps.level(one, where))
                        self.assertEqual(content_at(made, one[0], x), content)
                        self.assertEqual(level_at(made, one[0], x), level)
                        self.assertEqual(sound_at(made, one[0], x), told(by_steps.sound(one, where)))

    def test_far_out(self):
        tempo = tempo_of(Fraction(1, 3), (200000, 1, 3))
        made = sheet(lane("a", piece(7, at=99999, many=1, way="free", speed=Fraction(1, 2))), tempo=tempo)
        length = 1 + 2 * Fraction(2 * 99999 + 1, 400000)
        self.assertEqual(content_at(made, 7, place(199999, 2)), told(length / 4))
        made = sheet(lane("a", piece(7, many=100000, shape=shape_of((0, 0), (100000, 1)))), tempo=tempo)
        self.assertEqual(level_at(made, 7, (99999, 1)), (99999, 100000))
        self.assertEqual(content_at(made, 7, (99999, 1)), (99999, 1))

    def test_refusals(self):
        for ask in (content_at, level_at, sound_at):
            for thing in NUMBERED:
                assert_refused(self, NoPiece, ask, ONE, thing, (3, 1))
            for thing in NOT_FROM_NOUGHT:
                assert_refused(self, NoPlace, ask, ONE, 7, thing)
            dues = [(NoSheet, {0: ONE[:2]}), (NoPiece, {1: 8}), (NoPlace, {2: (-1, 1)})]
            assert_first_goes_first(self, ask, [ONE, 7, (3, 1)], dues)


class OfLanes(unittest.TestCase):
    OVER = sheet(
        lane("a", piece(1, many=6, start=0, speed=Fraction(1, 10)), piece(2, "b", at=2, many=2, speed=Fraction(1, 10)),
             piece(3, at=4, many=4, start=2, speed=Fraction(1, 10)), gain=2),
        lane("b", piece(4, "c", at=1, many=3, speed=Fraction(1, 10)), gain=Fraction(1, 2)),
        lane("c", piece(5, "b", many=9, speed=Fraction(1, 100)), silent=1),
        lane("d", piece(6, "b", many=9, speed=Fraction(1, 100)), gain=0),
        lane("e"), tempo=EVEN)

    def test_the_highest_piece_is_heard(self):
        for x, sound in [(0, 10), (1, 10), (Fraction(199, 100), 10), (2, 200), (Fraction(7, 2), 200), (4, 6), (5, 6),
                         (Fraction(799, 100), 6), (8, 0), (9, 0)]:
            self.assertEqual(lane_at(self.OVER, "a", place(x)), told(sound), x)

    def test_a_higher_piece_without_tone_is_heard_too(self):
        made = sheet(lane("a", piece(1, many=6), piece(2, at=1, many=2, start=9), piece(3, "b", at=3, many=1, start=1)))
        for x, sound in [(0, 5), (1, 0), (2, 0), (3, 0), (4, 0)]:
            self.assertEqual(lane_at(made, "a", (x, 1)), told(sound))

    def test_silent_lanes_and_gains_of_nought(self):
        for name in "cde":
            for x in range(10):
                self.assertEqual(lane_at(self.OVER, name, (x, 1)), (0, 1))

    def test_the_sum_of_the_lanes(self):
        for x, sound in [(0, 10), (1, Fraction(21, 2)), (2, Fraction(401, 2)), (4, 6), (8, 0), (1000, 0)]:
            self.assertEqual(heard_at(self.OVER, place(x)), told(sound))

    def test_at_its_moment(self):
        for x in places_within(10):
            self.assertEqual(heard(self.OVER, moment_of(EVEN, x)), heard_at(self.OVER, x))
        self.assertEqual(heard(self.OVER, (3, 1)), (401, 2))
        self.assertEqual(heard(self.OVER, place(299, 100)), (21, 2))

    def test_without_lanes(self):
        self.assertEqual(heard_at(sheet(), (0, 1)), (0, 1))
        self.assertEqual(heard(sheet(), (10 ** 12, 1)), (0, 1))
        self.assertEqual(played(sheet(), (0, 1), (1, 1), 3), [(0, 1)] * 3)

    def test_many_sheets_step_by_step(self):
        for made in some_sheets(30, 100):
            by_steps = Reckoned(made)
            for x in places_within(20):
                where = worth(x)
                for row in made[2]:
                    self.assertEqual(lane_at(made, row[0], x), told(by_steps.lane_sound(row, where)))
                self.assertEqual(heard_at(made, x), told(by_steps.heard_at(where)))
                self.assertEqual(heard(made, x), told(by_steps.heard(where)))

    def test_refusals(self):
        for thing in NAMED:
            assert_refused(self, NoLane, lane_at, ONE, thing, (3, 1))
            assert_refused(self, NoLane, runs_of, ONE, thing)
        for thing in NOT_FROM_NOUGHT:
            assert_refused(self, NoPlace, lane_at, ONE, "a", thing)
            assert_refused(self, NoPlace, heard_at, ONE, thing)
            assert_refused(self, NoMoment, heard, ONE, thing)
        bad = (NoSheet, {0: ONE[:2]})
        assert_first_goes_first(self, lane_at, [ONE, "a", (3, 1)], [bad, (NoLane, {1: "b"}), (NoPlace, {2: 3})])
        assert_first_goes_first(self, heard_at, [ONE, (3, 1)], [bad, (NoPlace, {1: (-1, 1)})])
        assert_first_goes_first(self, heard, [ONE, (3, 1)], [bad, (NoMoment, {1: (-1, 1)})])
        assert_first_goes_first(self, runs_of, [ONE, "a"], [bad, (NoLane, {1: 7})])


class Runs(unittest.TestCase):
    def runs(self, *spans):
        pieces = [piece(n + 1, at=at, many=end - at) for n, (at, end) in enumerate(spans)]
        return runs_of(sheet(lane("b"), lane("a", *pieces)), "a")

    def test_none(self):
        self.assertEqual(self.runs(), [])

    def test_of_one_piece(self):
        self.assertEqual(self.runs((3, 7)), [(3, 7, 1)])
        self.assertEqual(self.runs((0, 100000)), [(0, 100000, 1)])

    def test_beside_one_another(self):
        self.assertEqual(self.runs((3, 7), (7, 8)), [(3, 7, 1), (7, 8, 2)])
        self.assertEqual(self.runs((7, 8), (3, 7)), [(3, 7, 2), (7, 8, 1)])
        self.assertEqual(self.runs((3, 7), (9, 12)), [(3, 7, 1), (9, 12, 2)])

    def test_over_one_another(self):
        self.assertEqual(self.runs((3, 7), (5, 9)), [(3, 5, 1), (5, 9, 2)])
        self.assertEqual(self.runs((5, 9), (3, 7)), [(3, 7, 2), (7, 9, 1)])

    def test_within_one_another(self):
        self.assertEqual(self.runs((0, 9), (3, 5)), [(0, 3, 1), (3, 5, 2), (5, 9, 1)])
        self.assertEqual(self.runs((3, 5), (0, 9)), [(0, 9, 2)])
        self.assertEqual(self.runs((3, 5), (3, 5)), [(3, 5, 2)])
        self.assertEqual(self.runs((0, 9), (0, 5)), [(0, 5, 2), (5, 9, 1)])
        self.assertEqual(self.runs((0, 9), (5, 9)), [(0, 5, 1), (5, 9, 2)])

    def test_as_long_as_can_be(self):
        # What begins and ends below another piece parts nothing of it.
        self.assertEqual(self.runs((2, 4), (3, 6), (0, 9)), [(0, 9, 3)])
        self.assertEqual(self.runs((1, 3), (0, 9), (4, 5), (4, 5)), [(0, 4, 2), (4, 5, 4), (5, 9, 2)])
        self.assertEqual(self.runs((0, 2), (4, 9), (1, 5)), [(0, 1, 1), (1, 5, 3), (5, 9, 2)])

    def test_silent_lanes_and_gains_do_not_count(self):
        made = sheet(lane("a", piece(7), gain=0, silent=1))
        self.assertEqual(runs_of(made, "a"), [(0, 4, 7)])

    def test_sixty_pieces(self):
        self.assertEqual(self.runs(*[(k, 120 - k) for k in range(60)]),
                         [(k, k + 1, k + 1) for k in range(59)] + [(59, 61, 60)]
                         + [(120 - k - 1, 120 - k, k + 1) for k in reversed(range(59))])

    def test_many_sheets_step_by_step(self):
        for made in some_sheets(200, 200):
            for row in made[2]:
                self.assertEqual(runs_of(made, row[0]), Reckoned(made).runs(row))

    def test_lists_are_new_ones(self):
        found = runs_of(ONE, "a")
        found.append(found.pop() + (1,))
        found.clear()
        self.assertEqual(runs_of(ONE, "a"), [(3, 7, 7)])
        self.assertTrue(unchanged(runs_of, ONE, "a"))
        self.assertTrue(is_plainly_told(runs_of(ONE, "a")))


class Played(unittest.TestCase):
    def test_one_moment(self):
        self.assertEqual(played(ONE, (7, 2), (1, 1), 1), [heard(ONE, (7, 2))])
        self.assertEqual(played(ONE, (7, 2), (10 ** 50, 1), 1), [(5, 4)])

    def test_each_a_step_later(self):
        for made in some_sheets(10, 300):
            first, step = Fraction(5, 7), Fraction(3, 4)
            self.assertEqual(played(made, told(first), told(step), 30),
                             [heard(made, told(first + k * step)) for k in range(30)])

    def test_four_hundred_moments(self):
        found = played(FREE, (0, 1), (1, 20), 400)
        self.assertEqual(len(found), 400)
        self.assertEqual(found, [heard(FREE, told(Fraction(k, 20))) for k in range(400)])

    def test_refusals(self):
        for thing in NOT_FROM_NOUGHT:
            assert_refused(self, NoMoment, played, ONE, thing, (1, 1), 2)
        for thing in NOT_ABOVE_NOUGHT:
            assert_refused(self, NoMoment, played, ONE, (0, 1), thing, 2)
        for thing in NO_WHOLES + [0, -1, 401, 10 ** 60, (1, 1)]:
            assert_refused(self, NoCount, played, ONE, (0, 1), (1, 1), thing)
        dues = [(NoSheet, {0: None}), (NoMoment, {1: (-1, 2)}), (NoMoment, {2: (0, 1)}), (NoCount, {3: 401})]
        assert_first_goes_first(self, played, [ONE, (0, 1), (1, 1), 400], dues)

    def test_lists_are_new_ones(self):
        found = played(ONE, (4, 1), (1, 1), 2)
        found.reverse()
        found.append(1)
        self.assertEqual(played(ONE, (4, 1), (1, 1), 2), [(-7, 2), (-7, 1)])
        self.assertTrue(unchanged(played, ONE, (4, 1), (1, 1), 2))
        self.assertTrue(is_plainly_told(played(ONE, (4, 1), (1, 1), 2)))


class NoSheets(unittest.TestCase):
    ASKED = [(content_at, 2), (level_at, 2), (sound_at, 2), (lane_at, 2), (heard_at, 1), (heard, 1), (runs_of, 1),
             (played, 3)]

    def test_ahead_of_all_else(self):
        for ask, more in self.ASKED:
            for thing in ANYTHING + [ONE[:2], ONE + (1,), list(ONE), (None,) + ONE[1:], (ONE[0], (), ONE[2])]:
                assert_refused(self, NoSheet, ask, thing, *[None] * more)
                assert_refused(self, NoSheet, ask, thing, *["a", (3, 1), 5][:more])

    def test_each_fault(self):
        shape = flat(4)
        good = ONE[2][0][3][0]
        for part in [good[:7], good[:7] + (flat(3),), good[:7] + (shape + shape,), (100000,) + good[1:],
                     good[:2] + (99997,) + good[3:], good[:5] + ((2, 2),) + good[6:], good[:1] + ("z",) + good[2:]]:
            for ask, more in self.ASKED:
                assert_refused(self, NoSheet, ask, (ONE[0], ONE[1], (lane("a", part),)), *[None] * more)


if __name__ == "__main__":
    unittest.main()
