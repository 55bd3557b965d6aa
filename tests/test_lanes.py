import unittest

from beatlanes.errors import NoLane, NoLevel, NoName, NoRank, NoSheet, NoTake, Taken, TooMany, Used
from beatlanes.heard import heard_at
from beatlanes.lanes import drop_lane, drop_take, gain_to, hush, lane_to, new_lane, new_take
from beatlanes.laying import lift
from beatlanes.sheets import is_name, is_take
from tests.makings import TAKES, lane, numbers_in, piece, sheet, tempo_of
from tests.test_heard import NAMED
from tests.test_laying import assert_no_sheets_first, assert_sheet
from tests.things import ANYTHING, NO_WHOLES, NOT_FROM_NOUGHT, all_but, assert_first_goes_first, assert_refused, unchanged

TEMPO = tempo_of(2, (4, 1, 3))
LANES = (lane("b", piece(3, "b")), lane("a", piece(7), piece(5, "b"), gain=2), lane("c", gain=0, silent=1), lane("e"))
SHEET = sheet(*LANES, tempo=TEMPO)
UNLANED = [thing for thing in NAMED if thing not in ("b", "c")] + ["", "d", "abcdefghi"]
LETTERS = "abcdefghijklmnopqrstuvwxyz"


def of_lanes(many):
    return sheet(*[lane(LETTERS[k]) for k in range(many)])


def of_takes(many):
    return sheet(takes=tuple((LETTERS[k], (k,)) for k in range(many)))


def names(made):
    return "".join(row[0] for row in made[2])


class NewLane(unittest.TestCase):
    def test_behind_the_others(self):
        for name in ["d", "z", "aa", "abcdefgh"]:
            made = new_lane(SHEET, name)
            self.assertEqual(made, (TEMPO, TAKES, LANES + ((name, (1, 1), 0, ()),)))
            assert_sheet(self, made)
        self.assertEqual(new_lane(sheet(), "a"), sheet(lane("a")))
        self.assertTrue(unchanged(new_lane, SHEET, "d"))

    def test_a_take_of_the_name_does_not_count(self):
        made = sheet(takes=(("a", (1,)),))
        self.assertEqual(names(new_lane(made, "a")), "a")

    def test_twelve_and_a_thirteenth(self):
        made = of_lanes(11)
        assert_sheet(self, new_lane(made, "z"))
        full = new_lane(made, "l")
        self.assertEqual(full, of_lanes(12))
        assert_refused(self, TooMany, new_lane, full, "m")
        assert_refused(self, Taken, new_lane, full, "l")
        assert_refused(self, NoName, new_lane, full, "L")

    def test_refusals(self):
        for thing in all_but(is_name, ["abcdefghi", "a1", "a b", " a", "a\n", "A", "-", "_"]):
            assert_refused(self, NoName, new_lane, SHEET, thing)
        for name in "abce":
            assert_refused(self, Taken, new_lane, SHEET, name)
        assert_first_goes_first(self, new_lane, [SHEET, "d"], [(NoSheet, {0: 1}), (NoName, {1: ""}), (Taken, {1: "a"})])
        assert_no_sheets_first(self, new_lane, "d")


class DropLane(unittest.TestCase):
    def test_without_pieces(self):
        self.assertEqual(drop_lane(SHEET, "c"), (TEMPO, TAKES, LANES[:2] + LANES[3:]))
        self.assertEqual(drop_lane(SHEET, "e"), (TEMPO, TAKES, LANES[:3]))
        self.assertEqual(names(drop_lane(lift(SHEET, 3), "b")), "ace")
        self.assertEqual(drop_lane(new_lane(SHEET, "d"), "d"), SHEET)
        self.assertEqual(drop_lane(sheet(lane("a")), "a"), sheet())
        assert_sheet(self, drop_lane(SHEET, "c"))
        self.assertTrue(unchanged(drop_lane, SHEET, "c"))

    def test_refusals(self):
        for thing in UNLANED:
            assert_refused(self, NoLane, drop_lane, SHEET, thing)
        for name in "ab":
            assert_refused(self, Used, drop_lane, SHEET, name)
        assert_refused(self, Used, drop_lane, lift(SHEET, 5), "a")
        assert_first_goes_first(self, drop_lane, [SHEET, "c"], [(NoSheet, {0: 1}), (NoLane, {1: "d"}), (Used, {1: "a"})])
        assert_no_sheets_first(self, drop_lane, "c")


class GainTo(unittest.TestCase):
    def test_another_gain(self):
        for gain in [(0, 1), (1, 1), (1, 999999999999), (999999999999, 1), (7, 3)]:
            made = gain_to(SHEET, "a", gain)
            self.assertEqual(made, (TEMPO, TAKES, (LANES[0], ("a", gain) + LANES[1][2:], LANES[2], LANES[3])))
            assert_sheet(self, made)
        self.assertEqual(gain_to(SHEET, "a", (2, 1)), SHEET)
        self.assertTrue(unchanged(gain_to, SHEET, "a", (1, 2)))
        self.assertEqual(heard_at(gain_to(SHEET, "a", (1, 7)), (0, 1)), (100 * 7 + 100, 7))

    def test_refusals(self):
        for thing in UNLANED:
            assert_refused(self, NoLane, gain_to, SHEET, thing, (1, 1))
        for thing in NOT_FROM_NOUGHT:
            assert_refused(self, NoLevel, gain_to, SHEET, "a", thing)
        assert_first_goes_first(self, gain_to, [SHEET, "a", (1, 1)], [(NoSheet, {0: 1}), (NoLane, {1: "d"}), (NoLevel, {2: 1})])
        assert_no_sheets_first(self, gain_to, "a", (1, 1))


class Hush(unittest.TestCase):
    def test_silent_or_not(self):
        for silent in (0, 1):
            made = hush(SHEET, "a", silent)
            self.assertEqual(made, (TEMPO, TAKES, (LANES[0], LANES[1][:2] + (silent,) + LANES[1][3:], LANES[2], LANES[3])))
            assert_sheet(self, made)
        self.assertEqual(hush(SHEET, "a", 0), SHEET)
        self.assertEqual(hush(SHEET, "c", 1), SHEET)
        self.assertEqual(hush(hush(SHEET, "c", 0), "c", 1), SHEET)
        self.assertTrue(unchanged(hush, SHEET, "a", 1))
        self.assertEqual(heard_at(hush(SHEET, "a", 1), (0, 1)), (100, 1))

    def test_refusals(self):
        for thing in UNLANED:
            assert_refused(self, NoLane, hush, SHEET, thing, 1)
        for thing in NO_WHOLES + [-1, 2, 10 ** 60, (1, 1), "1"]:
            assert_refused(self, NoLevel, hush, SHEET, "a", thing)
        assert_first_goes_first(self, hush, [SHEET, "a", 1], [(NoSheet, {0: 1}), (NoLane, {1: "d"}), (NoLevel, {2: True})])
        assert_no_sheets_first(self, hush, "a", 1)


class LaneTo(unittest.TestCase):
    def test_ranks(self):
        for name, rank, order in [("b", 0, "bace"), ("b", 1, "abce"), ("b", 2, "acbe"), ("b", 3, "aceb"),
                                  ("c", 0, "cbae"), ("c", 1, "bcae"), ("c", 2, "bace"), ("c", 3, "baec"),
                                  ("e", 0, "ebac"), ("e", 3, "bace")]:
            made = lane_to(SHEET, name, rank)
            self.assertEqual(names(made), order)
            self.assertEqual((made[:2], set(made[2])), (SHEET[:2], set(SHEET[2])))
            assert_sheet(self, made)
        self.assertEqual(lane_to(sheet(lane("a")), "a", 0), sheet(lane("a")))
        self.assertTrue(unchanged(lane_to, SHEET, "b", 3))

    def test_refusals(self):
        for thing in UNLANED:
            assert_refused(self, NoLane, lane_to, SHEET, thing, 1)
        for thing in NO_WHOLES + [-1, 4, 5, 10 ** 60]:
            assert_refused(self, NoRank, lane_to, SHEET, "a", thing)
        assert_refused(self, NoRank, lane_to, sheet(lane("a")), "a", 1)
        assert_first_goes_first(self, lane_to, [SHEET, "a", 1], [(NoSheet, {0: 1}), (NoLane, {1: "d"}), (NoRank, {2: 4})])
        assert_no_sheets_first(self, lane_to, "a", 1)


class NewTake(unittest.TestCase):
    def test_behind_the_others(self):
        for take in [("d", (1,)), ("abcdefgh", (0,) * 200), ("e", (5, -7, 3)), ("zz", (100000, -100000))]:
            made = new_take(SHEET, take)
            self.assertEqual(made, (TEMPO, TAKES + (take,), LANES))
            assert_sheet(self, made)
        self.assertTrue(unchanged(new_take, SHEET, ("d", (1,))))

    def test_a_lane_of_the_name_does_not_count(self):
        self.assertEqual(new_take(SHEET, ("e", (1,)))[1][-1], ("e", (1,)))

    def test_twelve_and_a_thirteenth(self):
        full = new_take(of_takes(11), ("l", (11,)))
        self.assertEqual(full, of_takes(12))
        assert_sheet(self, full)
        assert_refused(self, TooMany, new_take, full, ("m", (1,)))
        assert_refused(self, Taken, new_take, full, ("l", (1,)))
        assert_refused(self, NoTake, new_take, full, ("m", ()))

    def test_refusals(self):
        for thing in all_but(is_take, [("d",), ("d", ()), ("d", [1]), ["d", (1,)], ("D", (1,)), ("d", (1,) * 201), "d",
                                       ("d", (100001,)), ("d", (True,)), ("d", (1,), 1), ("d", ((1, 1),))]):
            assert_refused(self, NoTake, new_take, SHEET, thing)
        for name in "abc":
            assert_refused(self, Taken, new_take, SHEET, (name, (9, 9)))
        dues = [(NoSheet, {0: 1}), (NoTake, {1: ("a", ())}), (Taken, {1: ("a", (1,))})]
        assert_first_goes_first(self, new_take, [SHEET, ("d", (1,))], dues)
        assert_no_sheets_first(self, new_take, ("d", (1,)))


class DropTake(unittest.TestCase):
    def test_without_pieces(self):
        self.assertEqual(drop_take(SHEET, "c"), (TEMPO, TAKES[:2], LANES))
        made = drop_take(lift(SHEET, 7), "a")
        self.assertEqual(made[1], TAKES[1:])
        assert_sheet(self, made)
        self.assertEqual(drop_take(lift(lift(SHEET, 3), 5), "b")[1], (TAKES[0], TAKES[2]))
        self.assertEqual(drop_take(new_take(SHEET, ("d", (1,))), "d"), SHEET)
        self.assertTrue(unchanged(drop_take, SHEET, "c"))

    def test_refusals(self):
        for thing in UNLANED + ["d", "cc", ("c", (1,)), ("c",)]:
            assert_refused(self, NoTake, drop_take, SHEET, thing)
        for thing in ANYTHING:
            assert_refused(self, NoTake, drop_take, sheet(takes=()), thing)
        for name in "ab":
            assert_refused(self, Used, drop_take, SHEET, name)
        assert_refused(self, Used, drop_take, lift(SHEET, 3), "b")
        assert_refused(self, Used, drop_take, lift(SHEET, 5), "b")
        assert_first_goes_first(self, drop_take, [SHEET, "c"], [(NoSheet, {0: 1}), (NoTake, {1: "d"}), (Used, {1: "a"})])
        assert_no_sheets_first(self, drop_take, "c")


class Together(unittest.TestCase):
    def test_the_order_of_lanes_is_not_heard(self):
        for rank in range(4):
            for x in range(5):
                self.assertEqual(heard_at(lane_to(SHEET, "a", rank), (x, 1)), heard_at(SHEET, (x, 1)))
        self.assertEqual(numbers_in(lane_to(SHEET, "a", 0)), [[7, 5], [3], [], []])


if __name__ == "__main__":
    unittest.main()
