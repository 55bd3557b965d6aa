import unittest
from fractions import Fraction

from beatlanes.errors import LaneError, NoFraction
from beatlanes.fracs import floor_of, fraction, greatest, is_fraction, is_less, least, minus, over, plus, rising, times
from tests.things import ANYTHING, is_plain_fraction, told, unchanged, worth

SIXTY = 10 ** 59 + 7
FAR = 10 ** 3998 + 3

WHOLES = [0, 1, -1, 2, -2, 3, 4, 6, -6, 7, 12, -12, 100, 999999999999, -999999999999, SIXTY, -SIXTY, 6 * SIXTY]

FRACTIONS = [told(one) for one in (
    0, 1, -1, 2, -2, 7, -7, Fraction(1, 2), Fraction(-1, 2), Fraction(1, 3), Fraction(-1, 3), Fraction(2, 3),
    Fraction(7, 2), Fraction(-7, 2), Fraction(999999999999, 999999999998), Fraction(-1, 999999999999),
    Fraction(SIXTY, 6), Fraction(-SIXTY, 35), Fraction(6, SIXTY), Fraction(10 ** 999 + 1, 10 ** 998 + 3),
)]


class IsFraction(unittest.TestCase):
    def test_fractions(self):
        for one in FRACTIONS + [(0, 1), (1, 1), (-1, 1), (5, 7), (-5, 7), (7, 5), (1, 10 ** 12 - 1)]:
            self.assertIs(is_fraction(one), True, one)

    def test_many_figures(self):
        self.assertIs(is_fraction((FAR, 1)), True)
        self.assertIs(is_fraction((-FAR, 2)), True)
        self.assertIs(is_fraction((1, FAR)), True)
        self.assertIs(is_fraction((FAR, FAR + 1)), True)
        self.assertIs(is_fraction((2 * FAR, 2)), False)
        self.assertIs(is_fraction((3 * SIXTY, 3 * SIXTY + 3)), False)
        self.assertIs(is_fraction((2 * FAR, 4 * FAR)), False)

    def test_noughts(self):
        for one in [(0, 0), (1, 0), (-1, 0), (0, 2), (0, -1), (0, SIXTY)]:
            self.assertIs(is_fraction(one), False, one)

    def test_bottoms_below_nought(self):
        for one in [(1, -1), (-1, -1), (1, -2), (-3, -2)]:
            self.assertIs(is_fraction(one), False, one)

    def test_not_in_lowest_terms(self):
        for one in [(2, 2), (2, 4), (-2, 4), (6, 3), (15, 35), (-6, 9)]:
            self.assertIs(is_fraction(one), False, one)

    def test_truths_are_no_whole_numbers(self):
        for one in [(True, 1), (1, True), (False, 1), (False, True), (True, 2), (3, True)]:
            self.assertIs(is_fraction(one), False, one)

    def test_other_things(self):
        for thing in ANYTHING:
            self.assertIs(is_fraction(thing), False, thing)
        for thing in ANYTHING:
            for one in [(thing, 1), (1, thing), (1, 1, thing), [1, thing]]:
                if isinstance(thing, int) and not isinstance(thing, bool):
                    continue
                self.assertIs(is_fraction(one), False, one)

    def test_of_more_or_fewer_parts(self):
        for thing in [(), (1,), (1, 1, 1), (1, 2, 1), [1, 1], [1, 2], "12", {1: 1, 2: 2}]:
            self.assertIs(is_fraction(thing), False, thing)

    def test_nothing_is_changed(self):
        for thing in ANYTHING:
            self.assertTrue(unchanged(is_fraction, thing))


class Made(unittest.TestCase):
    def test_of_all_signs(self):
        self.assertEqual(fraction(6, 4), (3, 2))
        self.assertEqual(fraction(-6, 4), (-3, 2))
        self.assertEqual(fraction(6, -4), (-3, 2))
        self.assertEqual(fraction(-6, -4), (3, 2))
        self.assertEqual(fraction(5, 7), (5, 7))
        self.assertEqual(fraction(4, 1), (4, 1))
        self.assertEqual(fraction(4, -1), (-4, 1))

    def test_of_nought(self):
        for bottom in [1, -1, 2, -2, 12, SIXTY, -SIXTY]:
            self.assertEqual(fraction(0, bottom), (0, 1))

    def test_of_many(self):
        for top in WHOLES + [FAR, -FAR]:
            for bottom in WHOLES:
                if bottom != 0:
                    one = fraction(top, bottom)
                    self.assertEqual(one, told(Fraction(top, bottom)))
                    self.assertTrue(is_plain_fraction(one))
                    self.assertTrue(is_fraction(one))

    def test_of_many_figures(self):
        self.assertEqual(fraction(FAR, FAR), (1, 1))
        self.assertEqual(fraction(FAR, -FAR), (-1, 1))
        self.assertEqual(fraction(3 * FAR, 2 * FAR), (3, 2))
        self.assertEqual(fraction(6 * SIXTY, -4), (-3 * SIXTY, 2))

    def test_bottom_nought_is_refused(self):
        for top in [0, 1, -1, SIXTY]:
            with self.assertRaises(NoFraction):
                fraction(top, 0)

    def test_no_whole_numbers_are_refused(self):
        for thing in ANYTHING:
            if isinstance(thing, int) and not isinstance(thing, bool):
                continue
            for top, bottom in [(thing, 1), (1, thing), (thing, thing), (0, thing), (thing, 0), (thing, -1)]:
                with self.assertRaises(NoFraction):
                    fraction(top, bottom)
                self.assertTrue(unchanged(fraction, top, bottom))

    def test_the_refusal_is_of_its_class_alone(self):
        for ask, one, other in [(fraction, 1, 0), (fraction, None, 1), (fraction, 1, True), (over, (1, 2), (0, 1))]:
            with self.assertRaises(LaneError) as caught:
                ask(one, other)
            self.assertIs(type(caught.exception), NoFraction)
            self.assertIsInstance(caught.exception, ValueError)


class Reckoned(unittest.TestCase):
    def check_all(self, ask, reckon, others):
        for one in FRACTIONS:
            for other in others:
                answer = ask(one, other)
                self.assertEqual(answer, told(reckon(worth(one), worth(other))))
                self.assertTrue(is_plain_fraction(answer))

    def test_plus(self):
        self.assertEqual(plus((1, 6), (1, 3)), (1, 2))
        self.assertEqual(plus((1, 2), (-1, 2)), (0, 1))
        self.assertEqual(plus((-1, 2), (-1, 2)), (-1, 1))
        self.check_all(plus, lambda one, other: one + other, FRACTIONS)

    def test_minus(self):
        self.assertEqual(minus((1, 2), (1, 3)), (1, 6))
        self.assertEqual(minus((1, 3), (1, 2)), (-1, 6))
        self.assertEqual(minus((1, 3), (1, 3)), (0, 1))
        self.check_all(minus, lambda one, other: one - other, FRACTIONS)

    def test_times(self):
        self.assertEqual(times((2, 3), (3, 4)), (1, 2))
        self.assertEqual(times((-2, 3), (3, 2)), (-1, 1))
        self.assertEqual(times((-2, 3), (0, 1)), (0, 1))
        self.check_all(times, lambda one, other: one * other, FRACTIONS)

    def test_over(self):
        self.assertEqual(over((2, 3), (4, 3)), (1, 2))
        self.assertEqual(over((2, 3), (-4, 3)), (-1, 2))
        self.assertEqual(over((-2, 3), (-4, 3)), (1, 2))
        self.assertEqual(over((0, 1), (-4, 3)), (0, 1))
        self.check_all(over, lambda one, other: one / other, [one for one in FRACTIONS if one != (0, 1)])

    def test_over_nought_is_refused(self):
        for one in FRACTIONS:
            with self.assertRaises(NoFraction):
                over(one, (0, 1))

    def test_what_was_told_goes_in_again(self):
        one = (SIXTY, 7)
        for _ in range(5):
            one = plus(times(one, one), (1, 3))
        self.assertGreater(one[0], 10 ** 1800)
        self.assertEqual(over(times(one, (3, 7)), (3, 7)), one)
        self.assertEqual(minus(plus(one, (1, 9)), (1, 9)), one)
        self.assertEqual(minus(one, one), (0, 1))
        self.assertIs(is_fraction(one), True)
        self.assertIs(is_less(one, plus(one, (1, FAR))), True)
        self.assertEqual(floor_of(minus((floor_of(one), 1), (1, FAR))), floor_of(one) - 1)

    def test_nothing_is_changed(self):
        for ask in [plus, minus, times, over, is_less]:
            for one in FRACTIONS:
                self.assertTrue(unchanged(ask, one, (2, 3)))


class Less(unittest.TestCase):
    def test_of_all(self):
        for one in FRACTIONS:
            for other in FRACTIONS:
                self.assertIs(is_less(one, other), worth(one) < worth(other))

    def test_of_equal_ones(self):
        for one in FRACTIONS:
            self.assertIs(is_less(one, one), False)

    def test_of_neighbouring_ones(self):
        for one in FRACTIONS:
            for far in [7, 10 ** 12, SIXTY, FAR]:
                above = told(worth(one) + Fraction(1, far))
                self.assertIs(is_less(one, above), True)
                self.assertIs(is_less(above, one), False)

    def test_below_nought(self):
        self.assertIs(is_less((-1, 2), (-1, 3)), True)
        self.assertIs(is_less((-1, 3), (-1, 2)), False)
        self.assertIs(is_less((-1, 3), (0, 1)), True)
        self.assertIs(is_less((0, 1), (-1, 3)), False)


class Floor(unittest.TestCase):
    def test_at_above_and_below_whole_numbers(self):
        for whole in [0, 1, 2, 7, -1, -2, -7, 999999999999, -999999999999, SIXTY, -SIXTY, FAR, -FAR]:
            self.assertEqual(floor_of((whole, 1)), whole)
            for bottom in [2, 3, 10 ** 12, SIXTY]:
                self.assertEqual(floor_of(told(whole + Fraction(1, bottom))), whole)
                self.assertEqual(floor_of(told(whole - Fraction(1, bottom))), whole - 1)

    def test_examples(self):
        self.assertEqual(floor_of((7, 2)), 3)
        self.assertEqual(floor_of((-7, 2)), -4)
        self.assertEqual(floor_of((-1, 2)), -1)
        self.assertEqual(floor_of((1, 2)), 0)
        self.assertIs(type(floor_of((7, 2))), int)


class Rows(unittest.TestCase):
    def test_least_and_greatest(self):
        for things in [FRACTIONS, FRACTIONS[::-1], FRACTIONS[5:], [(3, 1)], [(1, 2), (1, 2)], [(-1, 2), (-1, 3)]]:
            self.assertEqual(least(things), told(min(worth(one) for one in things)))
            self.assertEqual(greatest(things), told(max(worth(one) for one in things)))

    def test_rising(self):
        for things in [[], [(1, 1)], [(2, 1), (1, 1)], FRACTIONS, FRACTIONS[::-1], FRACTIONS[3:] + FRACTIONS[:9],
                       [told(Fraction(k * k % 31, k % 7 + 1)) for k in range(100)]]:
            self.assertEqual(rising(things), [told(one) for one in sorted({worth(one) for one in things})])
            self.assertTrue(unchanged(rising, things))


if __name__ == "__main__":
    unittest.main()
