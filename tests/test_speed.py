"""How much of the program is run by questions about sheets: lines are counted, which are as many on each machine."""

import unittest
from math import gcd

from beatlanes.changes import changes
from beatlanes.deeds import done
from beatlanes.grains import grains_of, loudest_lane
from beatlanes.heard import heard, heard_at, played, runs_of
from beatlanes.laying import lift
from beatlanes.rows import rows_heard
from beatlanes.sheets import fault_of
from tests.test_boards import LANE, some_board
from tests.things import lines_run


def low(top, bottom):
    shared = gcd(top, bottom) or 1
    return (top // shared, bottom // shared)


def sheet_of(stretches, takes, lanes, pieces):
    """A sheet of so many stretches, takes, lanes, and pieces in each, all of them as long as they may be."""
    tempo = (tuple((8333, (1 + k % 2, 1), (3 + k % 3, 7)) for k in range(stretches)), (5, 3))
    tones = tuple((7 * j) % 199 - 99 for j in range(200))
    shape = tuple((low(10 * j, 1), low((j * j) % 5 + 2 * (j % 2), 1 + j % 3)) for j in range(12))
    rows = []
    for i in range(lanes):
        numbers = range(1 + i * pieces, 1 + (i + 1) * pieces)
        rows.append((chr(97 + i) + "x", (3, 2), 0, tuple(
            (n, chr(97 + n % takes), j * 40, 110, ("free", "bound")[n % 2], (1, 3), (2, 7), shape)
            for j, n in enumerate(numbers))))
    return (tempo, tuple((chr(97 + k), tones) for k in range(takes)), tuple(rows))


class Questions(unittest.TestCase):
    def assert_quick(self, made, most):
        self.assertIsNone(fault_of(made))
        asked = {"fault_of": (fault_of,), "heard_at": (heard_at, (61, 2)), "heard": (heard, (61, 2)), "runs_of": (runs_of, "ax"),
                 "lift": (lift, 1), "done": (done, 99, ("lift", 1)), "grains_of": (grains_of, 2), "loudest_lane": (loudest_lane, "ax"),
                 "rows_heard": (rows_heard, (0, 1), (40, 1)), "played": (played, (0, 1), (1, 2), 40), "changes": (changes, made)}
        self.assertEqual(sorted(asked), sorted(most))
        for name, (ask, *things) in asked.items():
            self.assertLess(lines_run(ask, made, *things), most[name], name)

    def test_of_a_sheet_at_all_limits(self):
        self.assert_quick(sheet_of(24, 12, 12, 5), {
            "fault_of": 40000, "heard_at": 43000, "heard": 43000, "runs_of": 40000, "lift": 40000, "done": 40000, "grains_of": 50000,
            "loudest_lane": 55000, "rows_heard": 100000, "played": 140000, "changes": 80000})

    def test_of_a_sheet_of_middling_size(self):
        self.assert_quick(sheet_of(2, 2, 3, 3), {
            "fault_of": 6500, "heard_at": 7200, "heard": 7200, "runs_of": 6500, "lift": 6500, "done": 6500, "grains_of": 13000,
            "loudest_lane": 16000, "rows_heard": 28000, "played": 35000, "changes": 13000})

    def test_deeds_on_a_board_need_no_look_at_all_of_its_sheet(self):
        board = some_board(800, 30)
        one = lines_run(board.do, ("rest", 0, (7, 3)))
        self.assertLess(one, 400)
        self.assertLess(lines_run(board.leans, 1), 2500)
        self.assertLess(lines_run(board.do, LANE[:1] + ("zz",)), 400)


if __name__ == "__main__":
    unittest.main()
