import inspect
import unittest

from beatlanes import errors
from beatlanes.errors import LaneError, Leaned, NoText

NAMES = """NoFraction NoTempo NoStep NoPlace NoMoment NoCount NoSheet NoLane NoPiece NoTake NoName NoRank NoLevel
NoLong NoSide NoFar NoGlue Taken TooMany Used NoDeed NoNumber Full Leaned NoVersion NoText NoRow""".split()


class Refusals(unittest.TestCase):
    def test_all_are_there_and_no_others(self):
        found = [name for name, thing in vars(errors).items() if inspect.isclass(thing)]
        self.assertEqual(sorted(found), sorted(NAMES + ["LaneError"]))

    def test_each_is_defined_there(self):
        for name in NAMES + ["LaneError"]:
            self.assertEqual(getattr(errors, name).__module__, "beatlanes.errors")
            self.assertEqual(getattr(errors, name).__name__, name)

    def test_lane_error_stands_under_value_error(self):
        self.assertEqual(LaneError.__bases__, (ValueError,))

    def test_each_stands_straight_under_lane_error(self):
        for name in NAMES:
            self.assertEqual(getattr(errors, name).__bases__, (LaneError,), name)

    def test_none_stands_under_another_one(self):
        for name in NAMES:
            for other in NAMES:
                if other != name:
                    self.assertFalse(issubclass(getattr(errors, name), getattr(errors, other)))

    def test_plain_ones_are_made_of_a_text(self):
        for name in NAMES:
            if name not in ("Leaned", "NoText"):
                with self.assertRaises(LaneError) as caught:
                    raise getattr(errors, name)("why")
                self.assertEqual(str(caught.exception), "why")

    def test_leaned_keeps_its_numbers_itself(self):
        numbers = [2, 5]
        with self.assertRaises(Leaned) as caught:
            raise Leaned(numbers)
        self.assertIs(caught.exception.numbers, numbers)
        self.assertEqual(caught.exception.numbers, [2, 5])
        self.assertEqual(Leaned([]).numbers, [])

    def test_no_text_keeps_its_row(self):
        with self.assertRaises(NoText) as caught:
            raise NoText(7)
        self.assertEqual(caught.exception.row, 7)
        self.assertEqual(NoText(0).row, 0)


if __name__ == "__main__":
    unittest.main()
