import unittest
from fractions import Fraction
from random import Random

from beatlanes.cutting import cut, glue
from beatlanes.deeds import done
from beatlanes.errors import NoDeed, NoFar, NoGlue, NoLane, NoLevel, NoLong, NoName, NoPiece, NoPlace, NoRank, NoSheet
from beatlanes.errors import NoSide, NoStep, NoTake, Taken, TooMany, Used
from beatlanes.lanes import drop_lane, drop_take, gain_to, hush, lane_to, new_lane, new_take
from beatlanes.laying import lay, lift, move, raise_to, shift, trim
from beatlanes.paces import pace, rest_from
from beatlanes.ripples import cut_out, open_gap
from beatlanes.shaping import fade, louder, stretch_to, turn_over
from tests.makings import flat, lane, numbers_in, piece, shape_of, sheet, some_deed, some_sheets, tempo_of
from tests.test_laying import assert_no_sheets_first, assert_sheet, of_sixty
from tests.things import ANYTHING, NO_WHOLES, assert_first_goes_first, assert_refused, refusal_of, unchanged

TEMPO = tempo_of(2, (4, 1, 3), (3, 1, 1))
SHEET = sheet(lane("b", piece(3, "b", at=1)),
              lane("a", piece(5, at=20), piece(7, at=5, shape=shape_of((0, 1), (2, 3), (4, 2))), piece(9, at=3, many=9)),
              lane("c"), lane("e", piece(11, many=2), piece(12, at=2, many=2, start=2)), tempo=TEMPO)
HALF = (1, 2)

# Of each word: a deed that goes, the function as which it goes and with what, and deeds that are refused, as what.
DEEDS = [
    (("take", "d", (1, 2)), (new_take, ("d", (1, 2))),
     [(NoTake, "D", (1,)), (NoTake, "d", ()), (NoTake, "d", [1]), (Taken, "a", (1,))]),
    (("untake", "c"), (drop_take, "c"), [(NoTake, "d"), (NoTake, None), (Used, "a")]),
    (("lane", "d"), (new_lane, "d"), [(NoName, ""), (NoName, None), (Taken, "a")]),
    (("unlane", "c"), (drop_lane, "c"), [(NoLane, "d"), (NoLane, 1), (Used, "a")]),
    (("gain", "a", (3, 2)), (gain_to, "a", (3, 2)), [(NoLane, "d", (3, 2)), (NoLevel, "a", (-3, 2)), (NoLevel, "a", 3)]),
    (("hush", "a", 1), (hush, "a", 1), [(NoLane, "d", 1), (NoLevel, "a", 2), (NoLevel, "a", True)]),
    (("order", "a", 3), (lane_to, "a", 3), [(NoLane, "d", 3), (NoRank, "a", 4), (NoRank, "a", None)]),
    (("lay", "a", "b", 3, 4, "free", HALF, HALF, flat(4)), (lay, "a", (77, "b", 3, 4, "free", HALF, HALF, flat(4))),
     [(NoLane, "d", "b", 3, 4, "free", HALF, HALF, flat(4)), (NoPiece, "a", "b", 3, 4, "free", HALF, HALF, flat(3)),
      (NoPiece, "a", "b", -1, 4, "free", HALF, HALF, flat(4)), (NoTake, "a", "d", 3, 4, "free", HALF, HALF, flat(4))]),
    (("lift", 7), (lift, 7), [(NoPiece, 8), (NoPiece, True), (NoPiece, [7])]),
    (("move", 7, -2), (move, 7, -2), [(NoPiece, 8, 1), (NoStep, 7, HALF), (NoPlace, 7, -6)]),
    (("shift", 7, "b"), (shift, 7, "b"), [(NoPiece, 8, "b"), (NoLane, 7, "d"), (NoLane, 7, None)]),
    (("raise", 7, 0), (raise_to, 7, 0), [(NoPiece, 8, 0), (NoRank, 7, 3)]),
    (("trim", 7, 5, 30), (trim, 7, 5, 30), [(NoPiece, 8, 5, 30), (NoStep, 7, 5, 5), (NoPlace, 7, 5, 100001)]),
    (("cut", 7, 6), (cut, 7, 6, 77), [(NoPiece, 8, 6), (NoStep, 7, 5)]),
    (("glue", 11, 12), (glue, 11, 12), [(NoPiece, 8, 12), (NoPiece, 11, 8), (NoGlue, 12, 11)]),
    (("stretch", 7, 9), (stretch_to, 7, 9), [(NoPiece, 8, 9), (NoStep, 7, 0), (NoPlace, 7, 100000)]),
    (("turn", 7), (turn_over, 7), [(NoPiece, 8), (NoPiece, None)]),
    (("fade", 7, "out", HALF), (fade, 7, "out", HALF), [(NoPiece, 8, "in", HALF), (NoSide, 7, [], HALF), (NoFar, 7, "in", (5, 1))]),
    (("louder", 7, HALF), (louder, 7, HALF), [(NoPiece, 8, HALF), (NoLevel, 7, (-1, 2))]),
    (("pace", 2, 5, HALF, (7, 3)), (pace, 2, 5, HALF, (7, 3)), [(NoStep, 5, 5, HALF, HALF), (NoLong, 2, 5, HALF, (0, 1))]),
    (("rest", 5, HALF), (rest_from, 5, HALF), [(NoStep, -1, HALF), (NoLong, 5, (0, 1))]),
    (("out", "a", 6, 8), (cut_out, "a", 6, 8, 77), [(NoLane, "d", 6, 8), (NoStep, "a", 8, 8)]),
    (("gap", "a", 6, 8), (open_gap, "a", 6, 8, 77), [(NoLane, 0, 6, 8), (NoStep, "a", 6, 0)]),
    (("out", None, 6, 8), (cut_out, None, 6, 8, 77), [(NoStep, None, 0, 100001)]),
    (("gap", None, 6, 8), (open_gap, None, 6, 8, 77), [(NoStep, None, 100001, 1), (NoPlace, None, 0, 100000)]),
]
WORDS = """take untake lane unlane gain hush order lay lift move shift raise trim cut glue stretch turn fade louder pace
rest out gap""".split()
FUNCTIONS = {deed[0]: asked[0] for deed, asked, _ in DEEDS}


def as_its_function(made, new, deed):
    """What the function of the deed's word tells."""
    word, things = deed[0], deed[1:]
    if word == "take":
        return new_take(made, things)
    if word == "lay":
        return lay(made, things[0], (new,) + things[1:])
    if word in ("cut", "out", "gap"):
        things += (new,)
    return FUNCTIONS[word](made, *things)


class EachWord(unittest.TestCase):
    def test_all_are_here(self):
        self.assertEqual(sorted({deed[0] for deed, _, _ in DEEDS}), sorted(WORDS))
        self.assertEqual(len(WORDS), 23)

    def test_as_its_function_tells(self):
        for deed, (ask, *things), _ in DEEDS:
            found = done(SHEET, 77, deed)
            assert_sheet(self, found)
            self.assertEqual(found, ask(SHEET, *things), deed)
            self.assertNotEqual(found, SHEET, deed)
            self.assertTrue(unchanged(done, SHEET, 77, deed))

    def test_refused_as_its_function_is(self):
        for (word, *_), (ask, *_), refused in DEEDS:
            for refusal, *things in refused:
                assert_refused(self, refusal, done, SHEET, 77, (word, *things))
                self.assertIs(refusal_of(as_its_function, SHEET, 77, (word, *things)), refusal)

    def test_many_deeds_one_after_the_other(self):
        r = Random(31)
        for k, made in enumerate(some_sheets(80, 4000)):
            for new in range(1, 30):
                deed = some_deed(r, made)
                refusal = refusal_of(as_its_function, made, new, deed)
                self.assertIs(refusal_of(done, made, new, deed), refusal)
                if refusal is None:
                    self.assertEqual(done(made, new, deed), as_its_function(made, new, deed))
                    made = done(made, new, deed)
            assert_sheet(self, made)


class New(unittest.TestCase):
    def test_looked_at_only_where_it_may_be_needed(self):
        for deed, _, _ in DEEDS:
            found = done(SHEET, 77, deed)
            for new in NO_WHOLES + [0, -1, 100000, 3, 7, 11]:
                if deed[0] not in ("cut", "out", "gap", "lay"):
                    self.assertEqual(done(SHEET, new, deed), found)
                elif new in (3, 7, 11) and new is not True:
                    assert_refused(self, Taken, done, SHEET, new, deed)
                else:
                    assert_refused(self, NoPiece, done, SHEET, new, deed)

    def test_given_to_pieces(self):
        self.assertEqual(numbers_in(done(SHEET, 8, ("lay", "c", "b", 3, 4, "free", HALF, HALF, flat(4))))[2], [8])
        self.assertEqual(numbers_in(done(SHEET, 99999, ("cut", 7, 6)))[1], [5, 7, 99999, 9])
        self.assertEqual(numbers_in(done(SHEET, 30, ("out", None, 6, 8)))[1], [5, 7, 30, 9, 31])
        self.assertEqual(numbers_in(done(SHEET, 30, ("gap", "a", 6, 8)))[1], [5, 7, 30, 9, 31])

    def test_too_many(self):
        full = of_sixty()
        for deed in [("lay", "a", "b", 3, 4, "free", HALF, HALF, flat(4)), ("cut", 7, 2), ("out", None, 1, 2), ("gap", "b", 1, 2)]:
            assert_refused(self, TooMany, done, full, 100, deed)
            assert_refused(self, Taken, done, full, 60, deed)


class NoDeeds(unittest.TestCase):
    def test_what_is_no_tuple_of_a_word(self):
        for thing in ANYTHING + ["take", "lift", (), ("lifts", 7), ("Lift", 7), ("", 7), (7, "lift"), (["lift"], 7),
                                 (("lift",), 7), ("lift ", 7), ("raise_to", 7, 1), ("undo", 1), ({}, 1), (None,), ([],),
                                 ((), "lift", 7), (True, 7)]:
            assert_refused(self, NoDeed, done, SHEET, 77, thing)

    def test_lists_of_a_word(self):
        for deed, _, _ in DEEDS:
            assert_refused(self, NoDeed, done, SHEET, 77, list(deed))
            assert_refused(self, NoDeed, done, SHEET, 77, deed[0])

    def test_as_many_things_as_told(self):
        for deed, _, _ in DEEDS:
            for many in range(len(deed)):
                assert_refused(self, NoDeed, done, SHEET, 77, deed[:many])
            assert_refused(self, NoDeed, done, SHEET, 77, deed + (1,))
            assert_refused(self, NoDeed, done, SHEET, 77, deed + deed[1:])
            assert_refused(self, NoDeed, done, SHEET, 77, deed + (None, None))

    def test_things_of_any_kind_behind_a_word(self):
        for deed, _, _ in DEEDS:
            for k in range(1, len(deed)):
                for thing in ANYTHING:
                    spoilt = deed[:k] + (thing,) + deed[k + 1:]
                    self.assertIs(refusal_of(done, SHEET, 77, spoilt), refusal_of(as_its_function, SHEET, 77, spoilt))
                    self.assertIsNot(refusal_of(done, SHEET, 77, spoilt), NoDeed)

    def test_first_goes_first(self):
        for deed in [("lift", 7), ("cut", 7, 6), ("gap", None, 6, 8)]:
            dues = [(NoSheet, {0: None}), (NoDeed, {2: deed + (1,)}), (NoDeed, {2: None}), (NoDeed, {2: (deed[0],)})]
            assert_first_goes_first(self, done, [SHEET, 77, deed], dues)
        assert_no_sheets_first(self, done, 77, ("lift", 7))
        assert_no_sheets_first(self, done, 77, None)

    def test_the_sheet_at_its_limits(self):
        made = sheet(lane("a", piece(99999, start=Fraction(7, 3))))
        self.assertEqual(done(made, 99999, ("lift", 99999)), sheet(lane("a")))


if __name__ == "__main__":
    unittest.main()
