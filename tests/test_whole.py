"""What the document promises over the whole program, and what README.md shows of it."""

import ast
import re
import unittest
from fractions import Fraction
from pathlib import Path
from random import Random

from beatlanes import errors
from beatlanes.boards import Board
from beatlanes.boardtexts import read_board, show_board
from beatlanes.cutting import cut, glue
from beatlanes.deeds import done
from beatlanes.deedtexts import read_deed
from beatlanes.desk import Desk
from beatlanes.fracs import fraction, over
from beatlanes.grains import loudest, loudest_lane
from beatlanes.heard import heard, heard_at, level_at, played
from beatlanes.lanes import drop_lane, drop_take, gain_to, hush, lane_to, new_lane, new_take
from beatlanes.laying import lay, lift, move, raise_to, trim
from beatlanes.paces import pace, rest_from
from beatlanes.ripples import cut_out, open_gap
from beatlanes.rows import rows_heard, unlike
from beatlanes.shaping import fade, louder, stretch_to, turn_over
from beatlanes.tempo import length_of, moment_of, place_of
from beatlanes.texts import read_sheet, show_sheet
from tests.makings import PLAIN, flat, lane, piece, sheet, some_deed, some_sheets
from tests.test_boards import BARE, LANE, answer_of, some_board, state_of
from tests.things import is_plainly_told, refusal_of, told, worth

SHEET = sheet(lane("a", piece(7), piece(5, at=9)), lane("b"))
README = Path(__file__).resolve().parent.parent / "README.md"


def board_of(*deeds):
    board = Board()
    for deed in deeds:
        board.do(deed)
    return board


def full_of_versions():
    board = Board()
    for k in range(60):
        board.keep("abcdefghij"[k % 10] + "klmnop"[k // 10])
    return board


# Of each refusal, where the document tells of it: what is asked, and with what.
REFUSED = {
    "NoFraction": [(fraction, 1, 0), (fraction, True, 1), (over, (1, 2), (0, 1))],
    "NoTempo": [(length_of, None, 0), (moment_of, ((), (0, 1)), (0, 1)), (place_of, (), (0, 1))],
    "NoStep": [(length_of, PLAIN, -1), (move, SHEET, 7, None), (trim, SHEET, 7, 2, 2), (cut, SHEET, 7, 0, 8), (pace, SHEET, 1, 1, 1, 1),
               (stretch_to, SHEET, 7, 0), (rest_from, SHEET, -1, (1, 1)), (cut_out, SHEET, "a", 1, 1, 8), (open_gap, SHEET, None, 0, 0, 8)],
    "NoPlace": [(moment_of, PLAIN, (-1, 1)), (level_at, SHEET, 7, 1), (heard_at, SHEET, None), (move, SHEET, 7, -1),
                (open_gap, SHEET, None, 0, 100000, 8), (trim, SHEET, 7, -1, 3)],
    "NoMoment": [(place_of, PLAIN, (-1, 1)), (heard, SHEET, 1), (played, SHEET, (0, 1), (0, 1), 1), (rows_heard, SHEET, (1, 1), (1, 1)),
                 (unlike, SHEET, SHEET, (0, 1), (401, 1))],
    "NoCount": [(played, SHEET, (0, 1), (1, 1), 401), (played, SHEET, (0, 1), (1, 1), 0)],
    "NoSheet": [(heard, None, (0, 1)), (lift, BARE[:2], 1), (done, (), 1, LANE), (show_sheet, ""), (unlike, SHEET, (), (0, 1), (1, 1))],
    "NoLane": [(loudest_lane, SHEET, "z"), (lay, SHEET, None, piece(1)), (gain_to, SHEET, "z", (1, 1)), (cut_out, SHEET, 1, 0, 1, 8)],
    "NoPiece": [(loudest, SHEET, 8), (lift, SHEET, True), (lay, SHEET, "a", 7), (glue, SHEET, 7, 8), (open_gap, SHEET, "b", 0, 1, 0)],
    "NoTake": [(lay, SHEET, "a", piece(1, "z")), (new_take, SHEET, "a"), (drop_take, SHEET, "z")],
    "NoName": [(new_lane, SHEET, "A"), (Board().keep, "")],
    "NoRank": [(raise_to, SHEET, 7, 2), (lane_to, SHEET, "a", 2)],
    "NoLevel": [(gain_to, SHEET, "a", (-1, 1)), (hush, SHEET, "a", 2), (louder, SHEET, 7, (-1, 1))],
    "NoLong": [(pace, SHEET, 0, 1, (0, 1), (1, 1)), (rest_from, SHEET, 0, (0, 1))],
    "NoSide": [(fade, SHEET, 7, "both", (1, 1))],
    "NoFar": [(fade, SHEET, 7, "in", (0, 1)), (fade, SHEET, 7, "out", (5, 1))],
    "NoGlue": [(glue, SHEET, 7, 5)],
    "Taken": [(lay, SHEET, "a", piece(7)), (cut, SHEET, 7, 1, 5), (new_lane, SHEET, "a"), (new_take, SHEET, ("a", (1,))),
              (open_gap, SHEET, "a", 1, 1, 5), (full_of_versions().keep, "ak")],
    "TooMany": [(new_lane, sheet(*[lane(name) for name in "abcdefghijkl"]), "m"), (open_gap, sheet(tempo=(((200000, (1, 1), (3, 1)),),
                (1, 1))), None, 0, 1, 1)],
    "Used": [(drop_lane, SHEET, "a"), (drop_take, SHEET, "a")],
    "NoDeed": [(done, SHEET, 8, ("lift",)), (done, SHEET, 8, ["lift", 7]), (Board().do, None)],
    "NoNumber": [(Board().undo, 1), (Board().again, 1), (Board().leans, True), (Board().undo_all, 0), (board_of(LANE).again, 1)],
    "Full": [(full_of_versions().keep, "z"), (board_of(*[("rest", 0, (k, 1)) for k in range(1, 61)]).do, LANE)],
    "Leaned": [(board_of(LANE, ("unlane", "b")).undo, 1)],
    "NoVersion": [(Board().go, "a"), (Board().drop, "a"), (Board().between, "a", "a")],
    "NoText": [(read_sheet, ""), (read_deed, "lift"), (read_board, "?"), (Desk().say, "lift"), (Desk().say, "load\n?")],
    "NoRow": [(Desk().say, ""), (Desk().say, None), (Desk().say, "load"), (Desk().say, "undo x")],
}


class Refusals(unittest.TestCase):
    def test_each_is_met_where_it_is_told_and_is_of_its_own_class_alone(self):
        names = [name for name, thing in vars(errors).items() if isinstance(thing, type) and name != "LaneError"]
        self.assertEqual(sorted(REFUSED), sorted(names))
        for name, asked in REFUSED.items():
            for ask, *things in asked:
                self.assertIs(refusal_of(ask, *things), getattr(errors, name), (name, ask, things))


class ThePromise(unittest.TestCase):
    """What [4] tells, each sentence."""

    def test_places_and_moments_one_to_one(self):
        for made in some_sheets(20, 7000):
            before = (-1, 1)
            for part in range(60):
                at = told(Fraction(part, 3))
                moment = moment_of(made[0], at)
                self.assertEqual(place_of(made[0], moment), at)
                self.assertGreater(worth(moment), worth(before))
                before = moment

    def test_cut_and_glued_turned_twice_stretched_there_and_back(self):
        for made in some_sheets(30, 7100):
            for one in [one for row in made[2] for one in row[3]]:
                n, at, many = one[0], one[2], one[3]
                self.assertEqual(turn_over(turn_over(made, n), n), made)
                self.assertEqual(stretch_to(stretch_to(made, n, 3 * many + 1), n, many), made)
                for step in range(at + 1, at + many):
                    parted = cut(made, n, step, 20)
                    self.assertEqual(unlike(made, parted, (0, 1), (30, 1)), [])
                    self.assertEqual(glue(parted, n, 20), made)

    def test_nothing_else_that_was_laid_cut_or_asked_counts(self):
        for made in some_sheets(30, 7200):
            other = new_take(new_lane(made, "zz"), ("zz", (9,)))
            other = lift(lay(other, "zz", piece(30, "zz", many=20, shape=flat(20, 7))), 30)
            self.assertEqual(unlike(made, other, (0, 1), (30, 1)), [])
            self.assertEqual(drop_take(drop_lane(other, "zz"), "zz"), made)

    def test_a_deed_taken_back_alone_and_done_again(self):
        for seed in range(700, 715):
            board = some_board(seed)
            was = state_of(board)
            for k, _, word in board.deeds():
                if word == "stands" and not board.leans(k):
                    board.undo(k)
                    self.assertNotIn((k, "stands"), [(row[0], row[2]) for row in board.deeds()])
                    board.again(k)
                    self.assertEqual(state_of(board), was)

    def test_what_is_written_is_read_as_the_same(self):
        for seed in range(720, 735):
            board = some_board(seed)
            self.assertEqual(read_sheet(show_sheet(board.sheet())), board.sheet())
            self.assertEqual(state_of(read_board(show_board(board))), state_of(board))
            desk = Desk()
            desk.say("load\n" + show_board(board))
            self.assertEqual(read_sheet(desk.say("sheet")), board.sheet())
            self.assertEqual(state_of(read_board(desk.say("board"))), state_of(board))


class SideBySide(unittest.TestCase):
    def test_a_board_the_one_of_its_text_and_a_desk(self):
        for seed in range(740, 750):
            r = Random(seed)
            board = some_board(seed)
            others = [read_board(show_board(board)), read_board(show_board(board))]
            desk = Desk()
            desk.say("load\n" + show_board(board))
            was, text = state_of(board), show_board(board)
            for _ in range(8):
                answer_of(others[0].do, some_deed(r, others[0].sheet()))
                answer_of(others[0].undo_all, r.randint(1, 15))
                self.assertEqual([state_of(board), state_of(others[1]), desk.say("board")], [was, was, text])
            desk.say("load\n")
            board.keep("other")
            self.assertEqual(state_of(others[1]), was)

    def test_what_is_told_is_plain(self):
        board = some_board(751)
        for found in (board.sheet(), board.deeds(), board.leans(1), board.versions(), read_sheet(show_sheet(board.sheet())),
                      read_deed("lay a b 1 2 free 1/2 3 0:1,2:3"), read_board(show_board(board)).deeds()):
            self.assertTrue(is_plainly_told(found))


class Readme(unittest.TestCase):
    def test_what_it_shows_is_so(self):
        names = {}
        shown = 0
        for block in re.findall(r"```python\n(.*?)```", README.read_text(), re.S):
            for node in ast.parse(block).body:
                line = block.split("\n")[node.end_lineno - 1]
                if not isinstance(node, ast.Expr):
                    exec(compile(ast.Module([node], []), "README.md", "exec"), names)
                    continue
                found = eval(compile(ast.Expression(node.value), "README.md", "eval"), names)
                comment = line[node.end_col_offset:].strip().removeprefix("# ")
                try:
                    expected = ast.literal_eval(comment)
                except (SyntaxError, ValueError):
                    continue
                self.assertEqual(found, expected, line)
                shown += 1
        self.assertGreater(shown, 40)


if __name__ == "__main__":
    unittest.main()
