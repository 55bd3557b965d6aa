import unittest
from fractions import Fraction

from beatlanes.errors import LaneError, NoMoment, NoPlace, NoStep, NoTempo
from beatlanes.fracs import is_less, plus
from beatlanes.tempo import is_tempo, length_of, moment_of, place_of
from tests.things import ANYTHING, NO_PARTS, is_plain_fraction, lines_run, part_at, paths, put, spoilt, told
from tests.things import unchanged, worth

SIXTY = 10 ** 59 + 7

REST_ONLY = ((), (2, 3))
EVEN = (((4, (1, 2), (1, 2)),), (1, 1))
RISING = (((4, (1, 1), (3, 1)),), (2, 1))
FALLING = (((5, (3, 1), (1, 7)),), (1, 1))
ONE_STEP = (((1, (1, 3), (5, 2)),), (1, 1))
SEVERAL = (((3, (1, 1), (2, 1)), (1, (2, 1), (1, 5)), (4, (7, 3), (7, 3)), (2, (1, 9), (8, 3))), (5, 4))
SMALL = [REST_ONLY, EVEN, RISING, FALLING, ONE_STEP, SEVERAL]

LONG = (((200000, (1, 1), (3, 1)),), (1, 2))
LONG_PARTS = (((99999, (1, 3), (7, 5)), (1, (7, 5), (7, 5)), (100000, (9, 4), (1, 8))), (3, 1))
FINE = (((200000, (1, 999999999999), (999999999999, 999999999998)),), (1, 999999999989))


def lengths_of(tempo, many):
    """The lengths of the first so many steps, step by step as the document says."""
    stretches, rest = tempo
    lengths = []
    for count, first, last in stretches:
        first, last = worth(first), worth(last)
        lengths += [first + (last - first) * (2 * i + 1) / (2 * count) for i in range(count)]
    return (lengths + [worth(rest)] * many)[:many]


def moment_by_steps(tempo, place):
    """The moment of a place, step by step."""
    whole = place.numerator // place.denominator
    lengths = lengths_of(tempo, whole + 1)
    return sum(lengths[:whole], Fraction(0)) + lengths[whole] * (place - whole)


def jumps(many):
    """So many stretches of which no two go on as one straight line, and a rest."""
    return tuple((1 + k, (1 + k % 2, 1), (1 + k % 2, 1)) for k in range(many)), (9, 1)


class IsTempo(unittest.TestCase):
    def assert_tempo(self, thing):
        self.assertIs(is_tempo(thing), True, thing)

    def assert_none(self, thing):
        self.assertIs(is_tempo(thing), False, thing)

    def test_tempos(self):
        for tempo in SMALL + [LONG, LONG_PARTS, FINE]:
            self.assert_tempo(tempo)

    def test_anything(self):
        for thing in ANYTHING:
            self.assert_none(thing)
            if thing != ():
                self.assert_none((thing, (1, 1)))
            self.assert_none(((), thing))
            self.assert_none(((thing,), (1, 1)))
            self.assert_none((((4, (1, 2), thing),), (1, 1)))
            self.assertTrue(unchanged(is_tempo, thing))
            self.assertTrue(unchanged(is_tempo, ((thing,), (1, 1))))

    def test_wrong_kinds_at_every_place(self):
        for path, thing in spoilt(SEVERAL):
            self.assertIs(is_tempo(thing), False, (path, thing))

    def test_right_kinds_at_every_place(self):
        lengths = [(1, 999999999999), (999999999999, 1), (999999999998, 999999999999), (SIXTY, 10 ** 60)]
        for length in lengths:
            self.assert_tempo(((), length))
            for path in paths(SEVERAL):
                if is_plain_fraction(part_at(SEVERAL, path)):
                    self.assert_tempo(put(SEVERAL, path, length))
        for k in range(4):
            for many in [1, 2, 7, 199990]:
                self.assert_tempo(put(SEVERAL, (0, k, 0), many))

    def test_of_more_or_fewer_parts(self):
        stretch = EVEN[0][0]
        self.assert_none(EVEN + (None,))
        self.assert_none(EVEN[:1])
        self.assert_none(())
        self.assert_none((((stretch + (1,)),), (1, 1)))
        self.assert_none(((stretch[:2],), (1, 1)))
        self.assert_none((((),), (1, 1)))
        self.assert_none((stretch, (1, 1)))

    def test_at_most_twenty_four_stretches(self):
        for many in range(25):
            self.assert_tempo(jumps(many))
        self.assert_none(jumps(25))
        self.assert_none(jumps(26))

    def test_steps_of_a_stretch(self):
        for many in [1, 2, 199999, 200000]:
            self.assert_tempo((((many, (1, 2), (1, 3)),), (1, 1)))
        for many in [0, -1, 200001, 10 ** 60, True, (4, 1), "4", None]:
            self.assert_none((((many, (1, 2), (1, 3)),), (1, 1)))

    def test_steps_together(self):
        self.assert_tempo(LONG_PARTS)
        for counts, right in [((100000, 100000), True), ((100000, 100001), False), ((199999, 1), True),
                              ((200000, 1), False), ((1, 200000), False), ((199998, 1, 1), True),
                              ((199998, 1, 2), False)]:
            stretches = tuple((many, (1 + k % 2, 1), (3, 1)) for k, many in enumerate(counts))
            self.assertIs(is_tempo((stretches, (1, 1))), right, counts)
        many_short = tuple((8333, (1 + k % 2, 1), (3, 1)) for k in range(24))
        self.assert_tempo((many_short, (1, 1)))
        self.assert_none((((8342, (7, 1), (5, 1)),) + many_short[1:], (1, 1)))
        self.assert_tempo((((8341, (7, 1), (5, 1)),) + many_short[1:], (1, 1)))

    def test_lengths_are_above_nought(self):
        for wrong in [(0, 1), (-1, 1), (-1, 3), (1, 0), (1, -1), (2, 4), (True, 1), 1, None]:
            self.assert_none((((4, wrong, (1, 3)),), (1, 1)))
            self.assert_none((((4, (1, 3), wrong),), (1, 1)))
            self.assert_none((((4, (1, 3), (1, 2)),), wrong))
            self.assert_none(((), wrong))

    def test_lists_are_none(self):
        self.assert_none(([], (1, 1)))
        self.assert_none([(), (1, 1)])
        self.assert_none(((), [1, 1]))
        self.assert_none(([(4, (1, 2), (1, 2))], (1, 1)))
        self.assert_none((([4, (1, 2), (1, 2)],), (1, 1)))

    def test_straight_lines(self):
        rest = (9, 1)
        straight = [
            ((4, (1, 2), (1, 2)), (3, (1, 2), (1, 2))),
            ((2, (1, 1), (2, 1)), (2, (2, 1), (3, 1))),
            ((2, (1, 1), (2, 1)), (4, (2, 1), (4, 1))),
            ((4, (3, 1), (1, 1)), (1, (1, 1), (1, 2))),
            ((3, (1, 3), (1, 2)), (6, (1, 2), (5, 6))),
        ]
        for one, other in straight:
            self.assert_none(((one, other), rest))
            self.assert_tempo(((one,), rest))
            self.assert_tempo(((other,), rest))
            self.assert_tempo(((other, one), rest) if other[2] != one[1] else ((one,), rest))
            self.assert_none((((1, (8, 1), (8, 1)), one, other), rest))
            self.assert_none(((one, other, (1, (8, 1), (8, 1))), rest))
            self.assert_tempo(((one, (1, (8, 1), (8, 1)), other), rest))

    def test_bends_and_jumps_are_no_straight_lines(self):
        rest = (9, 1)
        for one, other in [
            ((2, (1, 1), (2, 1)), (2, (2, 1), (4, 1))),
            ((2, (1, 1), (2, 1)), (4, (2, 1), (3, 1))),
            ((2, (1, 1), (2, 1)), (2, (2, 1), (1, 1))),
            ((2, (1, 1), (2, 1)), (2, (2, 1), (2, 1))),
            ((2, (2, 1), (2, 1)), (2, (3, 1), (3, 1))),
            ((2, (1, 1), (2, 1)), (2, (3, 1), (4, 1))),
            ((2, (1, 1), (2, 1)), (2, (1, 1), (2, 1))),
        ]:
            self.assert_tempo(((one, other), rest))

    def test_the_last_one_is_not_rest_throughout(self):
        rest = (3, 2)
        self.assert_none((((4, rest, rest),), rest))
        self.assert_none((((4, (1, 1), (2, 1)), (1, rest, rest)), rest))
        self.assert_tempo((((4, rest, (2, 1)),), rest))
        self.assert_tempo((((4, (2, 1), rest),), rest))
        self.assert_tempo((((4, rest, rest), (1, (1, 1), (1, 1))), rest))
        self.assert_tempo((((4, (2, 1), (2, 1)),), rest))
        self.assert_tempo((((4, (1, 1), rest), (2, rest, rest), (1, rest, (1, 1))), rest))


class Lengths(unittest.TestCase):
    def test_step_by_step(self):
        for tempo in SMALL + [jumps(24)]:
            lengths = lengths_of(tempo, 350)
            for step, length in enumerate(lengths):
                self.assertEqual(length_of(tempo, step), told(length))
                self.assertTrue(is_plain_fraction(length_of(tempo, step)))

    def test_examples(self):
        self.assertEqual([length_of(RISING, step) for step in range(6)],
                         [(5, 4), (7, 4), (9, 4), (11, 4), (2, 1), (2, 1)])
        self.assertEqual([length_of(ONE_STEP, step) for step in range(3)], [(17, 12), (1, 1), (1, 1)])
        self.assertEqual([length_of(EVEN, step) for step in range(6)], [(1, 2)] * 4 + [(1, 1)] * 2)

    def test_long_ones(self):
        for step in [0, 1, 2, 99999, 100000, 199998, 199999]:
            self.assertEqual(length_of(LONG, step), told(1 + Fraction(2 * step + 1, 200000)))
        for step in [200000, 200001, 10 ** 12, SIXTY]:
            self.assertEqual(length_of(LONG, step), (1, 2))
        self.assertEqual(length_of(LONG_PARTS, 99999), (7, 5))
        self.assertEqual(length_of(LONG_PARTS, 100000), told(Fraction(9, 4) - Fraction(17, 8) / 200000))


class Moments(unittest.TestCase):
    def test_step_by_step(self):
        for tempo in SMALL:
            for top in range(0, 100):
                for bottom in [1, 2, 3, 7]:
                    place = Fraction(top, bottom)
                    moment = moment_of(tempo, told(place))
                    self.assertEqual(moment, told(moment_by_steps(tempo, place)))
                    self.assertTrue(is_plain_fraction(moment))

    def test_examples(self):
        self.assertEqual(moment_of(RISING, (0, 1)), (0, 1))
        self.assertEqual(moment_of(RISING, (1, 2)), (5, 8))
        self.assertEqual(moment_of(RISING, (1, 1)), (5, 4))
        self.assertEqual(moment_of(RISING, (7, 2)), (53, 8))
        self.assertEqual(moment_of(RISING, (4, 1)), (8, 1))
        self.assertEqual(moment_of(RISING, (9, 2)), (9, 1))
        self.assertEqual(moment_of(REST_ONLY, (999999999998, 7)), told(Fraction(999999999998, 7) * 2 / 3))

    def test_long_ones_at_all_steps(self):
        for tempo in [LONG, LONG_PARTS]:
            # All lengths are whole in these parts, which makes it quick to go step by step here.
            parts = 8 * 3 * 5 * 2 * 99999 * 100000
            moment = 0
            for many, first, last in tempo[0]:
                first, last = worth(first) * parts, (worth(last) - worth(first)) * parts
                lengths = [first + last * (2 * i + 1) / (2 * many) for i in (0, many - 1)]
                self.assertTrue(all(length.denominator == 1 for length in lengths))
            step = 0
            for many, first, last in tempo[0]:
                begin = int(worth(first) * parts)
                rise = (worth(last) - worth(first)) * parts / (2 * many)
                self.assertEqual(rise.denominator, 1)
                for i in range(many):
                    if step % 9973 == 0 or i in (0, 1, many // 2, many - 1):
                        self.assertEqual(moment_of(tempo, (step, 1)), told(Fraction(moment, parts)))
                        self.assertEqual(place_of(tempo, told(Fraction(moment, parts))), (step, 1))
                    moment += begin + int(rise) * (2 * i + 1)
                    step += 1
            self.assertEqual(moment_of(tempo, (200000, 1)), told(Fraction(moment, parts)))
            beyond = Fraction(moment, parts) + worth(tempo[1]) * (10 ** 12 - 200000)
            self.assertEqual(moment_of(tempo, (10 ** 12, 1)), told(beyond))


class Places(unittest.TestCase):
    def test_step_by_step(self):
        for tempo in SMALL:
            for top in range(0, 100):
                for bottom in [1, 2, 3, 7]:
                    place = Fraction(top, bottom)
                    found = place_of(tempo, told(moment_by_steps(tempo, place)))
                    self.assertEqual(found, told(place))
                    self.assertTrue(is_plain_fraction(found))

    def test_examples(self):
        self.assertEqual(place_of(RISING, (0, 1)), (0, 1))
        self.assertEqual(place_of(RISING, (5, 8)), (1, 2))
        self.assertEqual(place_of(RISING, (5, 4)), (1, 1))
        self.assertEqual(place_of(RISING, (8, 1)), (4, 1))
        self.assertEqual(place_of(RISING, (9, 1)), (9, 2))
        self.assertEqual(place_of(REST_ONLY, (999999999999, 1)), told(Fraction(999999999999) * 3 / 2))

    def test_edges_of_steps(self):
        tiny = Fraction(1, 10 ** 12)
        for tempo in SMALL:
            lengths = lengths_of(tempo, 20)
            moment = Fraction(0)
            for step, length in enumerate(lengths):
                self.assertEqual(place_of(tempo, told(moment)), (step, 1))
                self.assertEqual(place_of(tempo, told(moment + tiny)), told(step + tiny / length))
                self.assertEqual(place_of(tempo, told(moment + length - tiny)), told(step + 1 - tiny / length))
                moment += length


class ThereAndBack(unittest.TestCase):
    PLACES = [told(one) for one in (
        0, Fraction(1, 999999999999), Fraction(1, 3), 1, Fraction(3, 2), 2, 3, Fraction(7, 2), 4, Fraction(9, 2),
        7, 10, 11, Fraction(99999, 2), 99998, 99999, Fraction(199999, 2), 100000, Fraction(200001, 2),
        199999, Fraction(399999, 2), 200000, Fraction(400001, 2), 200001, 999999999999, Fraction(999999999999, 7),
        SIXTY, Fraction(SIXTY, 11),
    )]

    def test_from_places_and_back(self):
        for tempo in SMALL + [LONG, LONG_PARTS, FINE, jumps(24)]:
            for place in self.PLACES:
                moment = moment_of(tempo, place)
                self.assertTrue(is_plain_fraction(moment))
                self.assertEqual(place_of(tempo, moment), place)

    def test_from_moments_and_back(self):
        for tempo in SMALL + [LONG, LONG_PARTS, FINE, jumps(24)]:
            for moment in self.PLACES:
                place = place_of(tempo, moment)
                self.assertTrue(is_plain_fraction(place))
                self.assertEqual(moment_of(tempo, place), moment)

    def test_later_places_have_later_moments(self):
        for tempo in SMALL + [LONG, LONG_PARTS, FINE, jumps(24)]:
            places = sorted(self.PLACES, key=worth)
            for k in range(1, len(places)):
                self.assertTrue(is_less(moment_of(tempo, places[k - 1]), moment_of(tempo, places[k])))
                self.assertTrue(is_less(place_of(tempo, places[k - 1]), place_of(tempo, places[k])))

    def test_told_fractions_go_in_again(self):
        place = (999999999998, 999999999999)
        for _ in range(3):
            for tempo in [FALLING, FINE, LONG_PARTS]:
                place = plus(place, moment_of(tempo, place))
        self.assertGreater(place[1], 10 ** 60)
        for tempo in [SEVERAL, LONG, FINE]:
            self.assertEqual(place_of(tempo, moment_of(tempo, place)), place)
            self.assertEqual(moment_of(tempo, place_of(tempo, place)), place)
            lengths = (((3, place, (1, 1)), (200, place, place)), place_of(tempo, place))
            self.assertIs(is_tempo(lengths), True)
            self.assertEqual(place_of(lengths, moment_of(lengths, (7, 3))), (7, 3))


class NotStepByStep(unittest.TestCase):
    def test_long_tempos_are_answered_at_once(self):
        # Even a line run for each hundredth step would be more than this.
        most = 2000
        for tempo in [LONG, LONG_PARTS, FINE]:
            self.assertLess(lines_run(is_tempo, tempo), most)
            for place in [(199999, 1), (399999, 2), (150001, 1), (10 ** 12 - 1, 1)]:
                self.assertLess(lines_run(moment_of, tempo, place), most)
                self.assertLess(lines_run(place_of, tempo, moment_of(tempo, place)), most)
            for step in [0, 199999, 10 ** 12]:
                self.assertLess(lines_run(length_of, tempo, step), most)


class Refused(unittest.TestCase):
    ASKS = [(length_of, NoStep), (moment_of, NoPlace), (place_of, NoMoment)]
    NO_TEMPOS = ANYTHING + [EVEN[:1], EVEN + (1,), list(EVEN), (EVEN[0] * 2, (1, 1)), jumps(25)]

    def assert_refused(self, refusal, ask, *things):
        with self.assertRaises(refusal) as caught:
            ask(*things)
        self.assertIs(type(caught.exception), refusal)
        self.assertIsInstance(caught.exception, LaneError)
        self.assertIsInstance(caught.exception, ValueError)
        self.assertTrue(unchanged(ask, *things))

    def test_no_tempo(self):
        for ask, _ in self.ASKS:
            for tempo in self.NO_TEMPOS:
                self.assert_refused(NoTempo, ask, tempo, 0 if ask is length_of else (0, 1))

    def test_no_tempo_goes_first(self):
        for ask, _ in self.ASKS:
            for thing in NO_PARTS + [-1, (-1, 1), (0, 2)]:
                self.assert_refused(NoTempo, ask, list(EVEN), thing)
                self.assert_refused(NoTempo, ask, thing, thing)

    def test_no_step(self):
        wholes = [thing for thing in ANYTHING if type(thing) is int and thing >= 0]
        for thing in ANYTHING + [-1, -200000, (1, 1), (0, 1), "0"]:
            if thing is True or thing is False or thing not in wholes:
                self.assert_refused(NoStep, length_of, EVEN, thing)

    def test_no_place_and_no_moment(self):
        for thing in ANYTHING + [0, 1, -1, (-1, 1), (-1, 999999999999), (-SIXTY, 2), (2, 4), [0, 1], "0/1"]:
            self.assert_refused(NoPlace, moment_of, EVEN, thing)
            self.assert_refused(NoMoment, place_of, EVEN, thing)

    def test_the_least_ones_are_let_by(self):
        self.assertEqual(length_of(EVEN, 0), (1, 2))
        self.assertEqual(moment_of(EVEN, (0, 1)), (0, 1))
        self.assertEqual(place_of(EVEN, (0, 1)), (0, 1))

    def test_what_is_answered_changes_nothing(self):
        for tempo in SMALL:
            self.assertTrue(unchanged(length_of, tempo, 3))
            self.assertTrue(unchanged(moment_of, tempo, (7, 2)))
            self.assertTrue(unchanged(place_of, tempo, (7, 2)))


if __name__ == "__main__":
    unittest.main()
