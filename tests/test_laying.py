import unittest
from fractions import Fraction

from beatlanes.errors import NoLane, NoPiece, NoPlace, NoRank, NoSheet, NoStep, NoTake, Taken, TooMany
from beatlanes.heard import content_at, heard_at, level_at
from beatlanes.laying import lay, lift, move, raise_to, shift, trim
from beatlanes.sheets import fault_of, is_piece
from tests.makings import PLAIN, TAKES, flat, lane, numbers_in, piece, piece_in, shape_of, sheet, some_sheets, tempo_of
from tests.makings import with_piece
from tests.reckoning import Reckoned
from tests.test_heard import NAMED, NUMBERED
from tests.things import ANYTHING, NO_WHOLES, all_but, assert_first_goes_first, assert_refused, is_plainly_told, told
from tests.things import unchanged, worth

TEMPO = tempo_of(2, (4, 1, 3), (3, 1, 1))
SHEET = sheet(lane("b", piece(3, "b", at=1)), lane("a", piece(7, at=2), piece(5, "b", at=3, way="free"), piece(9, at=20)),
              lane("c", gain=0, silent=1), tempo=TEMPO)
LANED = [thing for thing in NAMED if thing not in ("b", "c")] + ["", "d", "abcdefghi"]

TWELVE = shape_of(*[(place, place * place) for place in range(11)], (14, 0))


def of_sixty(many=60):
    """A sheet of so many pieces."""
    return sheet(lane("a", *[piece(n) for n in range(1, 31)]), lane("b", *[piece(n) for n in range(31, many + 1)]))


def assert_sheet(case, thing):
    case.assertIsNone(fault_of(thing))
    case.assertTrue(is_plainly_told(thing))


def assert_no_sheets_first(case, ask, *things):
    """NoSheet ahead of all else that is due."""
    for thing in ANYTHING + [SHEET[:2], SHEET + (1,), list(SHEET), (SHEET[0], (), SHEET[2]), ((), (1, 1)) + SHEET[1:]]:
        assert_refused(case, NoSheet, ask, thing, *[None] * len(things))
        assert_refused(case, NoSheet, ask, thing, *things)


class Lay(unittest.TestCase):
    def test_on_top(self):
        new = piece(1, "c", at=99, many=2)
        self.assertEqual(lay(SHEET, "a", new), (SHEET[0], SHEET[1], (SHEET[2][0], SHEET[2][1][:3]
                                                                    + (SHEET[2][1][3] + (new,),), SHEET[2][2])))
        self.assertEqual(lay(SHEET, "c", new)[2][2], ("c", (0, 1), 1, (new,)))
        assert_sheet(self, lay(SHEET, "b", new))

    def test_pieces_at_the_limits(self):
        for new in [piece(99999, at=99999, many=1), piece(1, many=100000), piece(1, start=10 ** 12 - 1),
                    piece(1, many=14, shape=TWELVE)]:
            assert_sheet(self, lay(SHEET, "c", new))

    def test_refusals(self):
        new = piece(1)
        for thing in LANED:
            assert_refused(self, NoLane, lay, SHEET, thing, new)
        for thing in all_but(is_piece, [new[:7], new + (1,), list(new), piece(0), piece(100000), piece(1, at=99999),
                                        piece(1, way="loose"), piece(1, speed=0), piece(1, shape=flat(3)), piece(True)]):
            assert_refused(self, NoPiece, lay, SHEET, "a", thing)
        for name in ["d", "z", "ab", "abcdefgh"]:
            assert_refused(self, NoTake, lay, SHEET, "a", piece(1, name))
        for n in [3, 5, 7, 9]:
            assert_refused(self, Taken, lay, SHEET, "c", piece(n))

    def test_sixty_pieces_and_one_more(self):
        full = lay(of_sixty(59), "b", piece(777))
        self.assertEqual(numbers_in(full)[1][-1], 777)
        assert_sheet(self, full)
        assert_refused(self, TooMany, lay, full, "a", piece(60))
        assert_refused(self, Taken, lay, full, "a", piece(59))
        assert_refused(self, NoTake, lay, full, "a", piece(59, "d"))

    def test_first_goes_first(self):
        dues = [(NoSheet, {0: None}), (NoLane, {1: "d"}), (NoPiece, {2: piece(1, "d", many=0)}),
                (NoTake, {2: piece(3, "d")}), (Taken, {2: piece(3)})]
        assert_first_goes_first(self, lay, [SHEET, "a", piece(1)], dues)
        assert_no_sheets_first(self, lay, "a", piece(1))


class Lift(unittest.TestCase):
    def test_out_of_its_lane(self):
        self.assertEqual(numbers_in(lift(SHEET, 7)), [[3], [5, 9], []])
        self.assertEqual(numbers_in(lift(SHEET, 5)), [[3], [7, 9], []])
        self.assertEqual(numbers_in(lift(SHEET, 9)), [[3], [7, 5], []])
        self.assertEqual(lift(SHEET, 3), (SHEET[0], SHEET[1], (("b", (1, 1), 0, ()),) + SHEET[2][1:]))
        assert_sheet(self, lift(SHEET, 3))
        self.assertEqual(lift(lay(SHEET, "a", piece(1)), 1), SHEET)

    def test_refusals(self):
        for thing in NUMBERED:
            assert_refused(self, NoPiece, lift, SHEET if thing != 5 else lift(SHEET, 5), thing)
        assert_first_goes_first(self, lift, [SHEET, 7], [(NoSheet, {0: None}), (NoPiece, {1: 8})])
        assert_no_sheets_first(self, lift, 7)


class Move(unittest.TestCase):
    def test_by_so_many_steps(self):
        for by in [-2, -1, 0, 1, 5, 99994]:
            moved = piece(7, at=2 + by)
            self.assertEqual(move(SHEET, 7, by), with_piece(SHEET, moved))
            assert_sheet(self, move(SHEET, 7, by))
        self.assertEqual(move(move(SHEET, 5, 12), 5, -12), SHEET)

    def test_nothing_else_of_a_free_piece(self):
        self.assertEqual(move(SHEET, 5, 4), with_piece(SHEET, piece(5, "b", at=7, way="free")))

    def test_beyond_the_ends(self):
        for by in [-3, -4, -100, -10 ** 60, 99995, 99996, 10 ** 60]:
            assert_refused(self, NoPlace, move, SHEET, 7, by)
        assert_refused(self, NoPlace, move, sheet(lane("a", piece(7, many=100000))), 7, 1)
        assert_refused(self, NoPlace, move, sheet(lane("a", piece(7, many=100000))), 7, -1)

    def test_refusals(self):
        for thing in NUMBERED:
            if thing != 5:
                assert_refused(self, NoPiece, move, SHEET, thing, 1)
        for thing in NO_WHOLES:
            assert_refused(self, NoStep, move, SHEET, 7, thing)
        dues = [(NoSheet, {0: None}), (NoPiece, {1: 8}), (NoStep, {2: (1, 1)}), (NoPlace, {2: -3})]
        assert_first_goes_first(self, move, [SHEET, 7, 1], dues)
        assert_no_sheets_first(self, move, 7, 1)


class Shift(unittest.TestCase):
    def test_on_top_of_a_lane(self):
        self.assertEqual(numbers_in(shift(SHEET, 7, "b")), [[3, 7], [5, 9], []])
        self.assertEqual(numbers_in(shift(SHEET, 3, "c")), [[], [7, 5, 9], [3]])
        self.assertEqual(numbers_in(shift(SHEET, 3, "a")), [[], [7, 5, 9, 3], []])
        made = shift(SHEET, 5, "c")
        self.assertEqual(piece_in(made, 5), piece_in(SHEET, 5))
        self.assertEqual([row[:3] for row in made[2]], [row[:3] for row in SHEET[2]])
        self.assertEqual(made[:2], SHEET[:2])
        assert_sheet(self, made)

    def test_its_own_lane(self):
        self.assertEqual(numbers_in(shift(SHEET, 7, "a")), [[3], [5, 9, 7], []])
        self.assertEqual(shift(SHEET, 9, "a"), SHEET)
        self.assertEqual(shift(SHEET, 3, "b"), SHEET)

    def test_a_full_sheet(self):
        assert_sheet(self, shift(of_sixty(), 1, "b"))

    def test_refusals(self):
        for thing in NUMBERED:
            if thing != 5:
                assert_refused(self, NoPiece, shift, SHEET, thing, "a")
        for thing in LANED:
            assert_refused(self, NoLane, shift, SHEET, 7, thing)
        assert_first_goes_first(self, shift, [SHEET, 7, "b"], [(NoSheet, {0: None}), (NoPiece, {1: 8}), (NoLane, {2: "d"})])
        assert_no_sheets_first(self, shift, 7, "b")


class RaiseTo(unittest.TestCase):
    def test_ranks(self):
        for n, rank, order in [(7, 0, [7, 5, 9]), (7, 1, [5, 7, 9]), (7, 2, [5, 9, 7]), (5, 0, [5, 7, 9]),
                               (5, 1, [7, 5, 9]), (5, 2, [7, 9, 5]), (9, 0, [9, 7, 5]), (9, 1, [7, 9, 5]), (9, 2, [7, 5, 9])]:
            made = raise_to(SHEET, n, rank)
            self.assertEqual(numbers_in(made), [[3], order, []])
            self.assertEqual({part[0]: part for part in made[2][1][3]}, {part[0]: part for part in SHEET[2][1][3]})
            self.assertEqual(made[:2] + made[2][::2], SHEET[:2] + SHEET[2][::2])
            self.assertEqual(made[2][1][:3], SHEET[2][1][:3])
        self.assertEqual(raise_to(SHEET, 3, 0), SHEET)
        assert_sheet(self, raise_to(SHEET, 7, 2))

    def test_refusals(self):
        for thing in NUMBERED:
            if thing != 5:
                assert_refused(self, NoPiece, raise_to, SHEET, thing, 0)
        for thing in NO_WHOLES + [-1, 3, 4, 10 ** 60]:
            assert_refused(self, NoRank, raise_to, SHEET, 7, thing)
        assert_refused(self, NoRank, raise_to, SHEET, 3, 1)
        assert_first_goes_first(self, raise_to, [SHEET, 7, 1], [(NoSheet, {0: None}), (NoPiece, {1: 8}), (NoRank, {2: 3})])
        assert_no_sheets_first(self, raise_to, 7, 1)


RISE = shape_of((0, 1), (2, 3), (4, 2))
LONE = sheet(lane("a", piece(1, "b"), piece(7, at=5, start=10, speed=Fraction(1, 2), shape=RISE)), tempo=TEMPO)
FREE = sheet(lane("a", piece(7, at=5, way="free", start=10, speed=Fraction(1, 2), shape=RISE)), tempo=TEMPO)


class Trim(unittest.TestCase):
    def trimmed(self, made, begin, end, n=7):
        assert_sheet(self, trim(made, n, begin, end))
        self.assertTrue(unchanged(trim, made, n, begin, end))
        self.assertEqual(trim(made, n, begin, end), with_piece(made, piece_in(trim(made, n, begin, end), n)))
        return piece_in(trim(made, n, begin, end), n)

    def test_to_what_it_covers(self):
        self.assertEqual(trim(LONE, 7, 5, 9), LONE)
        self.assertEqual(trim(FREE, 7, 5, 9), FREE)

    def test_further_in(self):
        for begin, end, start, shape in [
                (5, 8, 10, shape_of((0, 1), (2, 3), (3, Fraction(5, 2)))), (5, 7, 10, shape_of((0, 1), (2, 3))),
                (5, 6, 10, shape_of((0, 1), (1, 2))), (6, 9, Fraction(21, 2), shape_of((0, 2), (1, 3), (3, 2))),
                (7, 9, 11, shape_of((0, 3), (2, 2))), (8, 9, Fraction(23, 2), shape_of((0, Fraction(5, 2)), (1, 2))),
                (6, 8, Fraction(21, 2), shape_of((0, 2), (1, 3), (2, Fraction(5, 2))))]:
            self.assertEqual(self.trimmed(LONE, begin, end),
                             piece(7, at=begin, many=end - begin, start=start, speed=Fraction(1, 2), shape=shape))

    def test_further_out(self):
        for begin, end, start, shape in [
                (4, 9, Fraction(19, 2), shape_of((0, 1), (1, 1), (3, 3), (5, 2))),
                (0, 9, Fraction(15, 2), shape_of((0, 1), (5, 1), (7, 3), (9, 2))),
                (5, 10, 10, shape_of((0, 1), (2, 3), (4, 2), (5, 2))),
                (5, 100000, 10, shape_of((0, 1), (2, 3), (4, 2), (99995, 2))),
                (3, 8, 9, shape_of((0, 1), (2, 1), (4, 3), (5, Fraction(5, 2))))]:
            self.assertEqual(self.trimmed(LONE, begin, end),
                             piece(7, at=begin, many=end - begin, start=start, speed=Fraction(1, 2), shape=shape))

    def test_to_where_it_covered_nothing(self):
        for begin, end, start, level in [(1, 3, 8, 1), (0, 5, Fraction(15, 2), 1), (9, 12, 12, 2), (20, 21, Fraction(35, 2), 2),
                                         (99999, 100000, 10 + Fraction(99994, 2), 2)]:
            self.assertEqual(self.trimmed(LONE, begin, end), piece(7, at=begin, many=end - begin, start=start,
                                                                   speed=Fraction(1, 2), shape=flat(end - begin, level)))

    def test_a_free_piece(self):
        # The moments of its steps: 0, 5/4, 3, 21/4, 8, 9, 10, 11, 13, 15.
        for begin, start in [(5, 10), (6, Fraction(21, 2)), (7, 11), (8, 12), (4, Fraction(19, 2)), (3, Fraction(65, 8)),
                             (2, 7), (0, Fraction(11, 2))]:
            self.assertEqual(self.trimmed(FREE, begin, 9)[5], told(start))
            self.assertEqual(self.trimmed(FREE, begin, 9)[6], (1, 2))
            self.assertEqual(self.trimmed(FREE, begin, 9)[7], self.trimmed(LONE, begin, 9)[7])
        self.assertEqual(self.trimmed(FREE, 30, 40), piece(7, at=30, many=10, way="free", start=34, speed=Fraction(1, 2),
                                                           shape=flat(10, 2)))

    def test_shapes_are_put_plain(self):
        made = sheet(lane("a", piece(7, at=4, shape=shape_of((0, 1), (1, 1), (3, 2), (4, 2)), start=9)))
        self.assertEqual(self.trimmed(made, 2, 9)[7], shape_of((0, 1), (3, 1), (5, 2), (7, 2)))
        self.assertEqual(self.trimmed(made, 2, 6)[7], shape_of((0, 1), (3, 1), (4, Fraction(3, 2))))
        made = sheet(lane("a", piece(7, at=4, shape=flat(4, 3), start=9)))
        self.assertEqual(self.trimmed(made, 0, 20)[7], flat(20, 3))
        made = sheet(lane("a", piece(7, at=4, shape=shape_of((0, 1), (4, 3)), start=9)))
        self.assertEqual(self.trimmed(made, 0, 20)[7], shape_of((0, 1), (4, 1), (8, 3), (20, 3)))

    def test_corners_up_to_twelve_and_more(self):
        made = sheet(lane("b", piece(1)), lane("a", piece(2), piece(7, at=4, many=14, shape=TWELVE, start=9), piece(3)))
        self.assertEqual(self.trimmed(made, 4, 18)[7], TWELVE)
        self.assertEqual(len(self.trimmed(made, 5, 18)[7]), 11)
        self.assertEqual(len(self.trimmed(made, 4, 15)[7]), 12)
        self.assertEqual(len(self.trimmed(made, 5, 19)[7]), 12)
        self.assertEqual(self.trimmed(made, 3, 14)[7],
                         shape_of((0, 0), *[(place + 1, place * place) for place in range(11)]))
        for begin, end in [(3, 18), (4, 19), (3, 19), (0, 18), (4, 100000)]:
            assert_refused(self, TooMany, trim, made, 7, begin, end)
        # By itself too far out; too many corners are told first.
        for begin, end in [(-1, 18), (4, 100001), (-10 ** 30, 10 ** 30)]:
            assert_refused(self, TooMany, trim, made, 7, begin, end)
        level_first = shape_of(*[(place, max(place - 1, 0) ** 2) for place in range(11)], (14, 0))
        level = sheet(lane("a", piece(7, at=4, many=14, start=9, shape=level_first)))
        self.assertEqual(len(piece_in(level, 7)[7]), 12)
        self.assertEqual(len(self.trimmed(level, 0, 18)[7]), 12)
        assert_refused(self, TooMany, trim, level, 7, 0, 19)

    def test_beyond_what_may_be(self):
        for begin, end in [(-1, 9), (-5, 3), (-3, -1), (-10 ** 60, 9), (5, 100001), (100000, 100001), (5, 10 ** 60),
                           (-1, 100001)]:
            for made in (LONE, FREE):
                assert_refused(self, NoPlace, trim, made, 7, begin, end)

    def test_starts_below_nought(self):
        made = sheet(lane("a", piece(7, at=5, start=1, speed=Fraction(1, 3))))
        self.assertEqual(self.trimmed(made, 2, 9)[5], (0, 1))
        self.assertEqual(self.trimmed(made, 3, 4)[5], (1, 3))
        assert_refused(self, NoPlace, trim, made, 7, 1, 9)
        assert_refused(self, NoPlace, trim, made, 7, 0, 1)
        free = sheet(lane("a", piece(7, at=5, way="free", start=1, speed=Fraction(1, 3))), tempo=TEMPO)
        self.assertEqual(self.trimmed(free, 4, 9)[5], (2, 3))
        assert_refused(self, NoPlace, trim, free, 7, 3, 9)
        assert_refused(self, NoPlace, trim, sheet(lane("a", piece(7, at=5))), 7, 4, 9)

    def test_content_and_level_stay(self):
        for made in some_sheets(30, 1500):
            by_steps = Reckoned(made)
            for one in [one for row in made[2] for one in row[3]]:
                end = one[2] + one[3]
                for begin, behind in [(one[2] + 1, end), (one[2], end - 1), (one[2], end + 3), (one[2] - 1, end - 1),
                                      (end, end + 2), (0, 1)]:
                    start = by_steps.content(one, Fraction(begin)) if begin >= 0 else -1
                    if begin >= behind:
                        assert_refused(self, NoStep, trim, made, one[0], begin, behind)
                        continue
                    if start < 0:
                        assert_refused(self, NoPlace, trim, made, one[0], begin, behind)
                        continue
                    cut = trim(made, one[0], begin, behind)
                    assert_sheet(self, cut)
                    for part in range(3 * begin, 3 * behind):
                        where = Fraction(part, 3)
                        self.assertEqual(content_at(cut, one[0], told(where)), told(by_steps.content(one, where)))
                        near = min(max(where, one[2]), Fraction(end))
                        self.assertEqual(level_at(cut, one[0], told(where)), told(by_steps.level(one, near)))
                    self.assertIsNone(content_at(cut, one[0], (behind, 1)))

    def test_refusals(self):
        for thing in NUMBERED:
            assert_refused(self, NoPiece, trim, FREE, thing, 5, 9)
        for thing in NO_WHOLES:
            assert_refused(self, NoStep, trim, FREE, 7, thing, 9)
            assert_refused(self, NoStep, trim, FREE, 7, 5, thing)
        for begin, end in [(5, 5), (9, 5), (0, 0), (-1, -1), (-1, -2), (100001, 100001)]:
            assert_refused(self, NoStep, trim, FREE, 7, begin, end)
        dues = [(NoSheet, {0: None}), (NoPiece, {1: 8}), (NoStep, {2: None}), (NoStep, {3: True}), (NoPlace, {2: -1})]
        assert_first_goes_first(self, trim, [FREE, 7, 5, 9], dues)
        assert_no_sheets_first(self, trim, 7, 5, 9)


class Together(unittest.TestCase):
    def test_nothing_else_that_was_laid_counts(self):
        # What is laid, moved and lifted again leaves all heard as it was.
        made = lift(move(lay(SHEET, "a", piece(1, "b", at=2)), 1, 3), 1)
        self.assertEqual(made, SHEET)
        self.assertEqual([heard_at(made, (x, 1)) for x in range(30)], [heard_at(SHEET, (x, 1)) for x in range(30)])

    def test_what_is_on_top_is_heard(self):
        made = sheet(lane("a", piece(1, "b"), piece(2, "a")), tempo=PLAIN, takes=TAKES)
        self.assertEqual(heard_at(made, (0, 1)), (5, 1))
        self.assertEqual(heard_at(raise_to(made, 1, 1), (0, 1)), (100, 1))
        self.assertEqual(heard_at(shift(made, 1, "a"), (0, 1)), (100, 1))
        self.assertEqual(heard_at(lift(made, 2), (0, 1)), (100, 1))
        self.assertEqual(heard_at(lay(made, "a", piece(3, "c")), (0, 1)), (1, 1))
        self.assertEqual(worth(heard_at(move(made, 2, 1), (0, 1))), 100)


if __name__ == "__main__":
    unittest.main()
