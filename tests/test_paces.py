import unittest
from fractions import Fraction
from random import Random

from beatlanes.errors import NoLong, NoSheet, NoStep, TooMany
from beatlanes.heard import heard_at
from beatlanes.paces import pace, rest_from
from beatlanes.tempo import is_tempo, length_of, moment_of
from tests.makings import PLAIN, lane, piece, sheet, some_above_nought, some_sheets, some_tempo, tempo_of
from tests.test_laying import assert_no_sheets_first, assert_sheet
from tests.things import NO_WHOLES, NOT_ABOVE_NOUGHT, assert_first_goes_first, assert_refused, told, unchanged, worth

TEMPO = tempo_of(2, (4, 1, 3), (3, 1, 1), (2, 5, 1))
LANES = (lane("a", piece(7, at=2), piece(5, "b", way="free")), lane("b"))
SHEET = sheet(*LANES, tempo=TEMPO)


def single_steps(tempo, many):
    """Of each of the first steps the lengths from which and to which it goes."""
    steps = []
    for count, first, last in tempo[0]:
        first, last = worth(first), worth(last)
        steps += [(first + (last - first) * i / count, first + (last - first) * (i + 1) / count) for i in range(count)]
    return (steps + [(worth(tempo[1]),) * 2] * many)[:max(many, len(steps))]


def of_single_steps(steps, rest):
    """The tempo of such steps, as few stretches as can be."""
    stretches = []
    for first, last in steps:
        if stretches and stretches[-1][2] == first and stretches[-1][3] == last - first:
            stretches[-1] = (stretches[-1][0] + 1, stretches[-1][1], last, last - first)
        else:
            stretches.append((1, first, last, last - first))
    while stretches and stretches[-1][1:3] == (worth(rest),) * 2:
        stretches.pop()
    return (tuple((many, told(first), told(last)) for many, first, last, _ in stretches), rest)


def paced(tempo, begin, end, first, last):
    found = pace(sheet(*LANES, tempo=tempo), begin, end, told(first), told(last))
    return found[0]


def rested(tempo, begin, long):
    return rest_from(sheet(*LANES, tempo=tempo), begin, told(long))[0]


def jumps(many):
    """So many stretches of ten steps each, of which no two go on as one straight line."""
    return tempo_of(9, *[(10, 1 + k % 2, 1 + k % 2) for k in range(many)])


class Pace(unittest.TestCase):
    def test_one_stretch_alone(self):
        self.assertEqual(paced(PLAIN, 0, 4, 1, 3), tempo_of(1, (4, 1, 3)))
        self.assertEqual(paced(PLAIN, 5, 6, 3, 3), tempo_of(1, (5, 1, 1), (1, 3, 3)))
        self.assertEqual(paced(TEMPO, 0, 9, 2, 7), tempo_of(2, (9, 2, 7)))
        self.assertEqual(paced(TEMPO, 0, 200000, 2, 7), tempo_of(2, (200000, 2, 7)))

    def test_stretches_that_are_parted(self):
        self.assertEqual(paced(TEMPO, 1, 3, 7, 8),
                         tempo_of(2, (1, 1, Fraction(3, 2)), (2, 7, 8), (1, Fraction(5, 2), 3), (3, 1, 1), (2, 5, 1)))
        self.assertEqual(paced(TEMPO, 2, 6, 7, 8), tempo_of(2, (2, 1, 2), (4, 7, 8), (1, 1, 1), (2, 5, 1)))
        self.assertEqual(paced(TEMPO, 3, 8, 7, 8), tempo_of(2, (3, 1, Fraction(5, 2)), (5, 7, 8), (1, 3, 1)))
        self.assertEqual(paced(TEMPO, 8, 9, 7, 8), tempo_of(2, (4, 1, 3), (3, 1, 1), (1, 5, 3), (1, 7, 8)))

    def test_at_their_ends(self):
        self.assertEqual(paced(TEMPO, 4, 7, 7, 8), tempo_of(2, (4, 1, 3), (3, 7, 8), (2, 5, 1)))
        self.assertEqual(paced(TEMPO, 0, 4, 7, 8), tempo_of(2, (4, 7, 8), (3, 1, 1), (2, 5, 1)))
        self.assertEqual(paced(TEMPO, 7, 9, 7, 8), tempo_of(2, (4, 1, 3), (3, 1, 1), (2, 7, 8)))
        self.assertEqual(paced(TEMPO, 0, 7, 7, 8), tempo_of(2, (7, 7, 8), (2, 5, 1)))
        self.assertEqual(paced(TEMPO, 4, 9, 7, 8), tempo_of(2, (4, 1, 3), (5, 7, 8)))

    def test_behind_all(self):
        self.assertEqual(paced(TEMPO, 9, 10, 7, 8), tempo_of(2, (4, 1, 3), (3, 1, 1), (2, 5, 1), (1, 7, 8)))
        self.assertEqual(paced(TEMPO, 12, 20, 7, 8), tempo_of(2, (4, 1, 3), (3, 1, 1), (2, 5, 1), (3, 2, 2), (8, 7, 8)))
        self.assertEqual(paced(TEMPO, 8, 20, 7, 8), tempo_of(2, (4, 1, 3), (3, 1, 1), (1, 5, 3), (12, 7, 8)))
        self.assertEqual(paced(TEMPO, 199999, 200000, 7, 8)[0][3:], tempo_of(2, (199990, 2, 2), (1, 7, 8))[0])

    def test_lines_that_go_on_become_one(self):
        self.assertEqual(paced(TEMPO, 4, 7, 3, Fraction(9, 2)), tempo_of(2, (7, 1, Fraction(9, 2)), (2, 5, 1)))
        self.assertEqual(paced(TEMPO, 5, 6, 1, 1), TEMPO)
        self.assertEqual(paced(TEMPO, 1, 3, Fraction(3, 2), Fraction(5, 2)), TEMPO)
        self.assertEqual(paced(TEMPO, 4, 7, 11, 5), tempo_of(2, (4, 1, 3), (5, 11, 1)))
        # The one's last is the other's first, but they go by unlike much; or the other way round.
        self.assertEqual(len(paced(TEMPO, 4, 7, 3, 4)[0]), 3)
        self.assertEqual(len(paced(TEMPO, 4, 7, 4, Fraction(11, 2))[0]), 3)
        # One at both sides, as it was ahead of a deed between.
        made = paced(tempo_of(1, (10, 1, 11)), 4, 6, 3, 9)
        self.assertEqual(made, tempo_of(1, (4, 1, 5), (2, 3, 9), (4, 7, 11)))
        self.assertEqual(paced(made, 4, 6, 5, 7), tempo_of(1, (10, 1, 11)))

    def test_what_rests_throughout_goes(self):
        self.assertEqual(paced(TEMPO, 7, 9, 2, 2), tempo_of(2, (4, 1, 3), (3, 1, 1)))
        self.assertEqual(paced(TEMPO, 0, 9, 2, 2), tempo_of(2))
        self.assertEqual(paced(TEMPO, 0, 200000, 2, 2), tempo_of(2))
        self.assertEqual(paced(TEMPO, 20, 30, 2, 2), TEMPO)
        self.assertEqual(paced(TEMPO, 8, 30, 2, 2), tempo_of(2, (4, 1, 3), (3, 1, 1), (1, 5, 3)))
        self.assertEqual(paced(tempo_of(2, (4, 1, 3), (3, 2, 2), (2, 5, 1)), 7, 9, 2, 2), tempo_of(2, (4, 1, 3)))
        self.assertEqual(paced(tempo_of(2, (3, 2, 2), (2, 5, 1)), 3, 5, 2, 2), tempo_of(2))
        # What rests ahead of another one stays.
        self.assertEqual(paced(TEMPO, 4, 7, 2, 2), tempo_of(2, (4, 1, 3), (3, 2, 2), (2, 5, 1)))

    def test_all_else_of_the_sheet_stays(self):
        made = pace(SHEET, 1, 3, (7, 1), (8, 1))
        assert_sheet(self, made)
        self.assertEqual(made[1:], SHEET[1:])
        self.assertTrue(unchanged(pace, SHEET, 1, 3, (7, 1), (8, 1)))

    def test_step_by_step(self):
        r = Random(27)
        for _ in range(300):
            tempo = some_tempo(r)
            begin = r.randint(0, 20)
            end = begin + r.randint(1, 8)
            first, last = (r.choice([some_above_nought(r, 2, 3), tempo[1]] + [x for one in tempo[0] for x in one[1:]])
                           for _ in range(2))
            made = pace(sheet(tempo=tempo), begin, end, first, last)[0]
            self.assertTrue(is_tempo(made))
            rise = (worth(last) - worth(first)) / (end - begin)
            steps = single_steps(tempo, end)
            steps[begin:end] = [(worth(first) + rise * i, worth(first) + rise * (i + 1)) for i in range(end - begin)]
            self.assertEqual(made, of_single_steps(steps, tempo[1]))
            for step in range(40):
                if not begin <= step < end:
                    self.assertEqual(length_of(made, step), length_of(tempo, step))

    def test_steps_at_two_hundred_thousand_and_beyond(self):
        self.assertEqual(paced(PLAIN, 199999, 200000, 3, 4), tempo_of(1, (199999, 1, 1), (1, 3, 4)))
        long = tempo_of(1, (200000, 1, 3))
        self.assertEqual(paced(long, 199999, 200000, 3, 4)[0][0], (199999, (1, 1), told(3 - Fraction(1, 100000))))
        self.assertEqual(sum(part[0] for part in paced(long, 7, 9, 3, 4)[0]), 200000)
        for begin, end in [(0, 200001), (199999, 200001), (200000, 200001), (200000, 200000), (0, 10 ** 60)]:
            assert_refused(self, NoStep, pace, SHEET, begin, end, (1, 1), (1, 1))

    def test_twenty_four_stretches_and_more(self):
        self.assertEqual(len(paced(jumps(22), 15, 17, 3, 4)[0]), 24)
        self.assertEqual(len(paced(jumps(24), 10, 20, 3, 4)[0]), 24)
        self.assertEqual(len(paced(jumps(24), 15, 30, 3, 4)[0]), 24)
        self.assertEqual(len(paced(jumps(24), 15, 35, 3, 4)[0]), 24)
        self.assertEqual(len(paced(jumps(24), 235, 250, 9, 9)[0]), 24)
        self.assertEqual(len(paced(jumps(24), 32, 38, 2, 2)[0]), 24)
        self.assertEqual(len(paced(jumps(23), 230, 231, 3, 4)[0]), 24)
        for many, begin, end in [(23, 15, 17), (24, 15, 17), (24, 10, 19), (24, 240, 241), (24, 300, 301), (23, 240, 241),
                                 (24, 0, 1), (24, 239, 240)]:
            assert_refused(self, TooMany, pace, sheet(tempo=jumps(many)), begin, end, (3, 1), (4, 1))

    def test_refusals(self):
        good = [SHEET, 1, 3, (7, 1), (8, 1)]
        for thing in NO_WHOLES + [-1, 3, 4, -10 ** 60]:
            assert_refused(self, NoStep, pace, SHEET, thing, 3, (7, 1), (8, 1))
        for thing in NO_WHOLES + [1, 0, -1]:
            assert_refused(self, NoStep, pace, SHEET, 1, thing, (7, 1), (8, 1))
        for thing in NOT_ABOVE_NOUGHT:
            assert_refused(self, NoLong, pace, SHEET, 1, 3, thing, (8, 1))
            assert_refused(self, NoLong, pace, SHEET, 1, 3, (7, 1), thing)
        dues = [(NoSheet, {0: None}), (NoStep, {1: -1}), (NoStep, {2: 200001}), (NoLong, {3: (0, 1)}), (NoLong, {4: 1})]
        assert_first_goes_first(self, pace, good, dues)
        full = [sheet(tempo=jumps(24)), 15, 17, (7, 1), (8, 1)]
        for k, thing, refusal in [(1, None, NoStep), (2, 3, NoStep), (3, (0, 1), NoLong), (4, None, NoLong), (0, 1, NoSheet)]:
            assert_refused(self, refusal, pace, *full[:k], thing, *full[k + 1:])
        assert_no_sheets_first(self, pace, 1, 3, (7, 1), (8, 1))


class RestFrom(unittest.TestCase):
    def test_within_at_and_behind_stretches(self):
        self.assertEqual(rested(TEMPO, 0, 7), tempo_of(7))
        self.assertEqual(rested(TEMPO, 3, 7), tempo_of(7, (3, 1, Fraction(5, 2))))
        self.assertEqual(rested(TEMPO, 4, 7), tempo_of(7, (4, 1, 3)))
        self.assertEqual(rested(TEMPO, 5, 7), tempo_of(7, (4, 1, 3), (1, 1, 1)))
        self.assertEqual(rested(TEMPO, 9, 7), (TEMPO[0], (7, 1)))
        self.assertEqual(rested(TEMPO, 12, 7), tempo_of(7, (4, 1, 3), (3, 1, 1), (2, 5, 1), (3, 2, 2)))
        self.assertEqual(rested(TEMPO, 200000, 7)[0][3:], ((199991, (2, 1), (2, 1)),))
        self.assertEqual(rested(PLAIN, 200000, 7), tempo_of(7, (200000, 1, 1)))

    def test_what_rests_throughout_goes(self):
        self.assertEqual(rested(TEMPO, 7, 1), tempo_of(1, (4, 1, 3)))
        self.assertEqual(rested(TEMPO, 6, 1), tempo_of(1, (4, 1, 3)))
        self.assertEqual(rested(TEMPO, 12, 2), TEMPO)
        self.assertEqual(rested(PLAIN, 30, 1), PLAIN)
        self.assertEqual(rested(tempo_of(2, (3, 1, 1)), 3, 1), PLAIN)
        self.assertEqual(rested(tempo_of(2, (3, 1, 1)), 2, 1), PLAIN)

    def test_what_rests_goes_on_with_a_stretch(self):
        self.assertEqual(rested(tempo_of(2, (4, 1, 3), (3, 2, 2), (2, 2, 1)), 20, 5),
                         tempo_of(5, (4, 1, 3), (3, 2, 2), (2, 2, 1), (11, 2, 2)))

    def test_step_by_step(self):
        r = Random(28)
        for _ in range(200):
            tempo = some_tempo(r)
            begin = r.randint(0, 25)
            long = r.choice([some_above_nought(r, 2, 3), tempo[1]] + [x for one in tempo[0] for x in one[1:]])
            made = rest_from(sheet(tempo=tempo), begin, long)[0]
            self.assertTrue(is_tempo(made))
            self.assertEqual(made, of_single_steps(single_steps(tempo, begin)[:begin], long))
            for step in range(40):
                self.assertEqual(length_of(made, step), length_of(tempo, step) if step < begin else long)

    def test_all_else_of_the_sheet_stays(self):
        made = rest_from(SHEET, 3, (7, 1))
        assert_sheet(self, made)
        self.assertEqual(made[1:], SHEET[1:])
        self.assertTrue(unchanged(rest_from, SHEET, 3, (7, 1)))

    def test_twenty_four_stretches_and_more(self):
        self.assertEqual(len(rested(jumps(23), 240, 7)[0]), 24)
        self.assertEqual(len(rested(jumps(24), 240, 7)[0]), 24)
        self.assertEqual(len(rested(jumps(24), 300, 9)[0]), 24)
        assert_refused(self, TooMany, rest_from, sheet(tempo=jumps(24)), 241, (7, 1))
        assert_refused(self, TooMany, rest_from, sheet(tempo=jumps(24)), 200000, (7, 1))

    def test_refusals(self):
        for thing in NO_WHOLES + [-1, 200001, 10 ** 60]:
            assert_refused(self, NoStep, rest_from, SHEET, thing, (7, 1))
        for thing in NOT_ABOVE_NOUGHT:
            assert_refused(self, NoLong, rest_from, SHEET, 3, thing)
        assert_first_goes_first(self, rest_from, [SHEET, 3, (7, 1)], [(NoSheet, {0: 1}), (NoStep, {1: -1}), (NoLong, {2: 7})])
        full = sheet(tempo=jumps(24))
        assert_refused(self, NoLong, rest_from, full, 241, (0, 1))
        assert_refused(self, NoStep, rest_from, full, -1, (7, 1))
        assert_no_sheets_first(self, rest_from, 3, (7, 1))


class Together(unittest.TestCase):
    def test_what_is_heard_at_each_place_of_bound_pieces_stays(self):
        for made in some_sheets(30, 2100):
            bound = tuple(row[:3] + (tuple(one for one in row[3] if one[4] == "bound"),) for row in made[2])
            made = (made[0], made[1], bound)
            for other in (pace(made, 2, 9, (1, 3), (5, 1)), rest_from(made, 4, (7, 9))):
                for part in range(60):
                    where = told(Fraction(part, 3))
                    self.assertEqual(heard_at(other, where), heard_at(made, where))

    def test_later_steps_are_as_far_from_one_another(self):
        tempo = paced(TEMPO, 2, 8, 9, 4)
        for step in list(range(2)) + list(range(8, 30)):
            lasts = worth(moment_of(tempo, (step + 1, 1))) - worth(moment_of(tempo, (step, 1)))
            self.assertEqual(told(lasts), length_of(TEMPO, step))


if __name__ == "__main__":
    unittest.main()
