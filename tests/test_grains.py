import unittest
from fractions import Fraction

from beatlanes.errors import NoLane, NoPiece, NoSheet
from beatlanes.grains import grains_of, loudest, loudest_lane
from beatlanes.heard import content_at
from tests.makings import PLAIN, lane, piece, piece_in, shape_of, sheet, some_sheets, tempo_of
from tests.reckoning import Reckoned
from tests.test_heard import NAMED, NUMBERED, ONE
from tests.things import ANYTHING, assert_first_goes_first, assert_refused, is_plainly_told, lines_run, told, unchanged

EVEN = tempo_of(2, (4, 1, 3))
LONG_TAKE = ("a", tuple((-1) ** k * k for k in range(200)))
LONG = tempo_of(Fraction(1, 3), (99999, Fraction(1, 3), Fraction(7, 5)), (100000, Fraction(9, 4), Fraction(1, 8)))


def alone(one, tempo=PLAIN, **more):
    return sheet(lane("a", one), tempo=tempo, **more)


def grains(made, n=1):
    return grains_of(made, n)


def row(place, number, tone):
    return (told(place), number, tone)


class Grains(unittest.TestCase):
    def test_of_a_bound_piece(self):
        self.assertEqual(grains(alone(piece(1, at=5))), [row(5, 0, 5), row(6, 1, -7), row(7, 2, 3)])
        self.assertEqual(grains(alone(piece(1, at=5, many=2))), [row(5, 0, 5), row(6, 1, -7)])
        self.assertEqual(grains(alone(piece(1, at=5, speed=Fraction(1, 2)))), [row(5, 0, 5), row(7, 1, -7)])

    def test_quick_and_slow(self):
        self.assertEqual(grains(alone(piece(1, at=5, many=1, speed=100))),
                         [row(5, 0, 5), row(Fraction(501, 100), 1, -7), row(Fraction(502, 100), 2, 3)])
        self.assertEqual(grains(alone(piece(1, at=5, many=9, speed=Fraction(1, 9)))), [row(5, 0, 5)])
        self.assertEqual(grains(alone(piece(1, at=5, many=10, speed=Fraction(1, 9)))), [row(5, 0, 5), row(14, 1, -7)])
        self.assertEqual(grains(alone(piece(1, many=1, speed=10 ** 12 - 1)))[1:],
                         [row(Fraction(k, 10 ** 12 - 1), k, tone) for k, tone in [(1, -7), (2, 3)]])

    def test_starts_within_a_tone(self):
        third = Fraction(1, 3)
        self.assertEqual(grains(alone(piece(1, start=third))), [row(0, 0, 5), row(2 * third, 1, -7), row(5 * third, 2, 3)])
        self.assertEqual(grains(alone(piece(1, start=1 + third, at=2))), [row(2, 1, -7), row(2 + 2 * third, 2, 3)])
        self.assertEqual(grains(alone(piece(1, start=2 + third, at=2))), [row(2, 2, 3)])

    def test_starts_at_a_tone(self):
        self.assertEqual(grains(alone(piece(1, start=1))), [row(0, 1, -7), row(1, 2, 3)])
        self.assertEqual(grains(alone(piece(1, start=2))), [row(0, 2, 3)])

    def test_starts_behind_all_tones(self):
        for start in [3, Fraction(7, 2), 200, 10 ** 12 - 1]:
            for way in ("free", "bound"):
                self.assertEqual(grains(alone(piece(1, start=start, way=way))), [])

    def test_an_end_at_a_tone_or_behind_all(self):
        self.assertEqual(grains(alone(piece(1, many=3))), [row(0, 0, 5), row(1, 1, -7), row(2, 2, 3)])
        self.assertEqual(grains(alone(piece(1, many=3, speed=Fraction(2, 3)))), [row(0, 0, 5), row(Fraction(3, 2), 1, -7)])

    def test_of_a_free_piece(self):
        # The moments of its steps: 0, 5/4, 3, 21/4, 8.
        self.assertEqual(grains(alone(piece(1, "b", way="free"), EVEN)),
                         [row(0, 0, 100), row(Fraction(4, 5), 1, 0), row(Fraction(10, 7), 2, -20), row(2, 3, 40)])
        self.assertEqual(grains(alone(piece(1, "b", way="free", at=1, many=2, speed=Fraction(1, 2)), EVEN)),
                         [row(1, 0, 100), row(1 + 1 + Fraction(1, 9), 1, 0)])

    def test_by_jumps(self):
        tempo = tempo_of(5, (1, 1, 1), (1, Fraction(1, 2), Fraction(1, 2)))
        self.assertEqual(grains(alone(piece(1, way="free", many=3), tempo)),
                         [row(0, 0, 5), row(1, 1, -7), row(2 + Fraction(1, 10), 2, 3)])

    def test_the_first_place_is_told(self):
        for made in some_sheets(20, 400):
            for one in [one for part in made[2] for one in part[3]]:
                for where, number, _ in grains_of(made, one[0]):
                    content = content_at(made, one[0], where)
                    self.assertEqual(content[0] // content[1], number)
                    self.assertTrue(where == (one[2], 1) or content == (number, 1))

    def test_two_hundred_tones(self):
        made = alone(piece(1, many=100000, speed=Fraction(1, 500)), takes=(LONG_TAKE,))
        self.assertEqual(grains(made), [row(500 * k, k, (-1) ** k * k) for k in range(200)])
        made = alone(piece(1, many=100000, speed=Fraction(3, 500), way="free"), EVEN, takes=(LONG_TAKE,))
        self.assertEqual(len(grains(made)), 200)
        self.assertEqual(grains(made)[1], row(4 + (Fraction(500, 3) - 8) / 2, 1, -1))

    def test_at_once(self):
        # Not tone by tone below the start, not step by step.
        few = lines_run(grains_of, alone(piece(1, many=1, start=198, way="free"), LONG, takes=(LONG_TAKE,)), 1)
        many = lines_run(grains_of, alone(piece(1, many=100000, start=198, way="free", speed=Fraction(1, 10 ** 6)),
                                          LONG, takes=(LONG_TAKE,)), 1)
        self.assertLess(many, 3 * few)
        self.assertLess(lines_run(grains_of, alone(piece(1, start=10 ** 12 - 1)), 1), 3 * few)

    def test_many_sheets_step_by_step(self):
        for made in some_sheets(150, 500):
            by_steps = Reckoned(made)
            for one in [one for part in made[2] for one in part[3]]:
                self.assertEqual(grains_of(made, one[0]),
                                 [row(begin, number, tone) for begin, _, number, tone in by_steps.grains(one)])

    def test_refusals(self):
        for ask in (grains_of, loudest):
            for thing in NUMBERED:
                assert_refused(self, NoPiece, ask, ONE, thing)
            assert_first_goes_first(self, ask, [ONE, 7], [(NoSheet, {0: ONE[:2]}), (NoPiece, {1: 8})])
        for thing in NAMED:
            assert_refused(self, NoLane, loudest_lane, ONE, thing)
        assert_first_goes_first(self, loudest_lane, [ONE, "a"], [(NoSheet, {0: ONE[:2]}), (NoLane, {1: "b"})])
        for ask in (grains_of, loudest, loudest_lane):
            for thing in ANYTHING + [ONE[:2], list(ONE), (ONE[0], (), ONE[2])]:
                for other in (7, "a", None):
                    assert_refused(self, NoSheet, ask, thing, other)

    def test_lists_are_new_ones(self):
        made = alone(piece(1, at=5))
        found = grains_of(made, 1)
        told_first = list(found)
        found.sort(reverse=True)
        del found[0]
        self.assertEqual(grains_of(made, 1), told_first)
        self.assertTrue(unchanged(grains_of, made, 1))
        self.assertTrue(is_plainly_told(grains_of(made, 1)))

    def test_pieces_and_sheets_by_turns(self):
        one = alone(piece(1), takes=(("a", (1, 2)),))
        other = alone(piece(1), takes=(("a", (3, 4)),))
        free = alone(piece(1, way="free"), EVEN, takes=(("a", (1, 2)),))
        for _ in range(2):
            self.assertEqual(grains(one), [row(0, 0, 1), row(1, 1, 2)])
            self.assertEqual(grains(other), [row(0, 0, 3), row(1, 1, 4)])
            self.assertEqual(grains(free), [row(0, 0, 1), row(Fraction(4, 5), 1, 2)])


class LoudestOfAPiece(unittest.TestCase):
    def loudest(self, one, tempo=PLAIN):
        return loudest(alone(one, tempo), one[0])

    def test_a_level_that_is_one(self):
        self.assertEqual(self.loudest(piece(1)), (7, 1))
        self.assertEqual(self.loudest(piece(1, many=1)), (5, 1))
        self.assertEqual(self.loudest(piece(1, start=2)), (3, 1))

    def test_tones_below_nought(self):
        self.assertEqual(self.loudest(piece(1, start=1, many=1)), (7, 1))

    def test_without_grains(self):
        self.assertEqual(self.loudest(piece(1, start=3)), (0, 1))
        self.assertEqual(self.loudest(piece(1, start=1000)), (0, 1))

    def test_the_end_of_a_grain_is_counted(self):
        # The level rises, so that each tone is at its loudest where it ends.
        rising = shape_of((0, 0), (4, 8))
        self.assertEqual(self.loudest(piece(1, shape=rising)), (28, 1))
        self.assertEqual(self.loudest(piece(1, start=2, shape=rising)), (6, 1))
        self.assertEqual(self.loudest(piece(1, speed=Fraction(1, 4), shape=rising)), (40, 1))
        self.assertEqual(self.loudest(piece(1, speed=Fraction(1, 5), shape=rising)), (40, 1))

    def test_the_begin_of_a_grain_is_counted(self):
        falling = shape_of((0, 8), (4, 0))
        self.assertEqual(self.loudest(piece(1, shape=falling)), (42, 1))
        self.assertEqual(self.loudest(piece(1, speed=Fraction(1, 3), shape=falling)), (40, 1))

    def test_what_is_behind_the_last_tone_does_not_count(self):
        late = shape_of((0, 0), (3, 1), (4, 100))
        self.assertEqual(self.loudest(piece(1, shape=late)), (14, 3))
        self.assertEqual(self.loudest(piece(1, shape=shape_of((0, 0), (Fraction(7, 2), 0), (4, 100)))), (0, 1))

    def test_corners_within_a_grain(self):
        for top in [0, Fraction(1, 3), 1, 3, 7]:
            shape = shape_of((0, 1), (Fraction(3, 2), 4 + top), (4, 1))
            self.assertEqual(self.loudest(piece(1, shape=shape)), told(7 * (4 + top)))
        one = piece(1, shape=shape_of((0, 1), (1, 9), (Fraction(9, 8), 1), (4, 1)))
        self.assertEqual(self.loudest(one), (63, 1))

    def test_a_corner_where_one_tone_ends_and_another_one_begins(self):
        shape = shape_of((0, 0), (1, 10), (Fraction(11, 10), 0), (4, 0))
        self.assertEqual(loudest(alone(piece(1, shape=shape), takes=(("a", (9, 1)),)), 1), (90, 1))
        self.assertEqual(loudest(alone(piece(1, shape=shape), takes=(("a", (1, -9)),)), 1), (90, 1))
        self.assertEqual(loudest(alone(piece(1, shape=shape, start=1), takes=(("a", (1, -9)),)), 1), (90, 1))
        self.assertEqual(loudest(alone(piece(1, shape=shape, start=1), takes=(("a", (1,)),)), 1), (0, 1))

    def test_a_free_piece(self):
        # It has its second tone from 4/5 to 10/7.
        shape = shape_of((0, 0), (4, 4))
        self.assertEqual(self.loudest(piece(1, way="free", many=4, shape=shape), EVEN), (10, 1))
        self.assertEqual(self.loudest(piece(1, way="bound", many=4, shape=shape), EVEN), (14, 1))
        self.assertEqual(self.loudest(piece(1, way="free", many=1, shape=shape_of((0, 0), (1, 4)), speed=2), EVEN),
                         (7 * 16, 5))

    def test_many_sheets_step_by_step(self):
        for made in some_sheets(150, 700):
            by_steps = Reckoned(made)
            for one in [one for part in made[2] for one in part[3]]:
                self.assertEqual(loudest(made, one[0]), told(by_steps.loudest(one)))

    def test_at_once(self):
        corners = [(0, 1)] + [(9000 * k + k * k, k % 2) for k in range(1, 11)] + [(100000, 1)]
        one = piece(1, many=100000, way="free", speed=Fraction(1, 400), shape=shape_of(*corners))
        made = alone(one, LONG, takes=(LONG_TAKE,))
        self.assertLess(lines_run(loudest, made, 1), 150000)
        self.assertEqual(len(grains_of(made, 1)), 200)
        self.assertEqual(loudest(made, 1), told(Reckoned(made).loudest(piece_in(made, 1))))


class LoudestOfALane(unittest.TestCase):
    def loudest(self, *pieces, **more):
        return loudest_lane(sheet(lane("b"), lane("a", *pieces, **more)), "a")

    def test_none(self):
        self.assertEqual(self.loudest(), (0, 1))
        self.assertEqual(self.loudest(piece(1, start=3)), (0, 1))

    def test_gain_and_silence(self):
        self.assertEqual(self.loudest(piece(1)), (7, 1))
        self.assertEqual(self.loudest(piece(1), gain=Fraction(3, 2)), (21, 2))
        self.assertEqual(self.loudest(piece(1), gain=0), (0, 1))
        self.assertEqual(self.loudest(piece(1), silent=1), (0, 1))

    def test_the_loudest_piece(self):
        self.assertEqual(self.loudest(piece(1), piece(2, "b", at=4), piece(3, at=8)), (100, 1))
        self.assertEqual(self.loudest(piece(2, "b", at=4), piece(1)), (100, 1))

    def test_what_is_covered_does_not_count(self):
        self.assertEqual(self.loudest(piece(2, "b"), piece(1)), (7, 1))
        self.assertEqual(self.loudest(piece(2, "b", many=6), piece(1, many=2)), (20 + 20, 1))
        self.assertEqual(self.loudest(piece(2, "b", many=3), piece(1, many=2)), (20, 1))

    def test_both_ends_of_a_run_are_counted(self):
        rising = shape_of((0, 0), (4, 4))
        # Its run is from 0 to 2: its second tone, 0, lies in it with its end, its third one doesn't.
        self.assertEqual(self.loudest(piece(2, "b", shape=rising), piece(1, at=2, start=9)), (100, 1))
        self.assertEqual(self.loudest(piece(2, "a", shape=rising), piece(1, at=2, start=9)), (14, 1))
        # Its run is from 2 to 4: its first two tones don't lie in it, though they come near to it.
        self.assertEqual(self.loudest(piece(2, "a", shape=rising), piece(1, many=2, start=9)), (9, 1))
        self.assertEqual(self.loudest(piece(2, "a", shape=shape_of((0, 4), (4, 0))), piece(1, many=2, start=9)), (6, 1))
        self.assertEqual(self.loudest(piece(2, "a", shape=shape_of((0, 4), (4, 0))), piece(1, many=1, start=9)), (21, 1))

    def test_a_grain_in_several_runs(self):
        top = shape_of((0, 0), (5, 10), (9, 0))
        one = piece(1, many=9, speed=Fraction(1, 100), shape=top)
        self.assertEqual(self.loudest(one), (50, 1))
        self.assertEqual(self.loudest(one, piece(2, "c", at=4, many=2, start=5)), (40, 1))
        self.assertEqual(self.loudest(one, piece(2, "c", at=3, many=4, start=5)), (30, 1))
        self.assertEqual(self.loudest(one, piece(2, "c", at=1, many=2, start=5), piece(3, "c", at=5, many=3, start=5)),
                         (50, 1))

    def test_many_sheets_step_by_step(self):
        for made in some_sheets(150, 900):
            by_steps = Reckoned(made)
            for part in made[2]:
                self.assertEqual(loudest_lane(made, part[0]), told(by_steps.loudest_lane(part)))

    def test_at_once(self):
        def pieces(scale):
            corners = [(0, 1)] + [(9 * scale * k + k, k % 2) for k in range(1, 11)] + [(100 * scale, 1)]
            shape = shape_of(*corners)
            return [piece(n, at=0, many=100 * scale, way="free", speed=Fraction(1, 600 * n * scale), shape=shape)
                    for n in range(1, 60)] + [piece(60, at=scale, many=scale, start=300)]
        takes = (LONG_TAKE,)
        short = sheet(lane("a", *pieces(10)), tempo=LONG, takes=takes)
        far = sheet(lane("a", *pieces(1000)), tempo=LONG, takes=takes)
        self.assertLess(lines_run(loudest_lane, far, "a"), 5 * lines_run(loudest_lane, short, "a"))


if __name__ == "__main__":
    unittest.main()
