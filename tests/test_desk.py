import unittest
from fractions import Fraction
from random import Random

from beatlanes.boards import Board
from beatlanes.boardtexts import show_board
from beatlanes.deedtexts import show_deed
from beatlanes.desk import Desk
from beatlanes.errors import Full, LaneError, Leaned, NoLane, NoMoment, NoName, NoNumber, NoPiece, NoPlace, NoRow, NoStep, NoTake
from beatlanes.errors import NoText, NoVersion, Taken, Used
from beatlanes.grains import loudest_lane
from beatlanes.heard import heard, heard_at, runs_of
from beatlanes.rows import rows_heard
from beatlanes.tempo import moment_of, place_of
from beatlanes.texts import show_sheet
from tests.makings import some_deed
from tests.test_boards import LANE, LAY, TAKE, some_board
from tests.test_deeds import WORDS
from tests.things import ANYTHING, refusal_of, told
from tests.writing import NO_FRACTION_WORDS, NO_WHOLE_WORDS

FIRST = ["take a 5,-7,3", "lane b", "lay b a 0 6 bound 0 1/2 0:1,6:1"]
WHOLES = ["undo", "all", "again", "leans"]
NAMES = ["go", "keep", "drop", "loudest", "runs"]
FRACTIONS = ["heard", "at", "moment", "place"]
ALONE = ["versions", "deeds", "sheet", "board"]


def desk_of(*rows):
    desk = Desk()
    for row in rows:
        desk.say(row)
    return desk


def state_of(desk):
    return (desk.say("board"), desk.say("sheet"))


def answer_of(desk, row):
    try:
        return desk.say(row)
    except LaneError as refusal:
        return (refusal.__class__, getattr(refusal, "numbers", None), getattr(refusal, "row", None))


class Answers(unittest.TestCase):
    def setUp(self):
        self.desk = desk_of(*FIRST)

    def test_deeds_tell_how_many_changes(self):
        desk = Desk()
        self.assertEqual([desk.say(row) for row in FIRST], ["1", "1", "1"])
        self.assertEqual(desk.say("cut 300 2"), "3")
        self.assertEqual(desk.say("move 300 0"), "0")
        self.assertEqual(desk.say("gap - 0 3"), "2")
        self.assertEqual(desk.say("rest 0 1/2"), "1")

    def test_undo_all_again(self):
        self.desk.say("cut 300 2")
        self.desk.say("rest 0 2")
        self.assertEqual(self.desk.say("undo 4"), "3")
        self.assertEqual(self.desk.say("again 4"), "3")
        self.assertEqual(self.desk.say("all 3"), "2")
        self.assertEqual(self.desk.say("deeds"), "1 stands; 2 stands; 3 back; 4 back; 5 stands")
        self.assertEqual(self.desk.say("again 3"), "1")
        self.assertEqual(self.desk.say("undo 5"), "1")

    def test_leans(self):
        self.desk.say("cut 300 2")
        self.assertEqual([self.desk.say(f"leans {k}") for k in (1, 2, 3, 4)], ["3 4", "3 4", "4", "-"])

    def test_versions(self):
        self.assertEqual(self.desk.say("versions"), "-")
        self.assertEqual(self.desk.say("keep one"), "ok")
        self.desk.say("move 300 4")
        self.desk.say("louder 300 2")
        self.assertEqual(self.desk.say("keep two"), "ok")
        self.assertEqual(self.desk.say("versions"), "one two")
        self.assertEqual(self.desk.say("between one two"), "2")
        self.assertEqual(self.desk.say("between two two"), "0")
        self.assertEqual(self.desk.say("go one"), "2")
        self.assertEqual(self.desk.say("go one"), "0")
        self.assertEqual(self.desk.say("drop one"), "ok")
        self.assertEqual(self.desk.say("versions"), "two")
        self.assertEqual(self.desk.say("drop two"), "ok")
        self.assertEqual(self.desk.say("versions"), "-")

    def test_deeds(self):
        self.assertEqual(Desk().say("deeds"), "-")
        self.assertEqual(self.desk.say("deeds"), "1 stands; 2 stands; 3 stands")
        self.desk.say("undo 3")
        self.assertEqual(self.desk.say("deeds"), "1 stands; 2 stands; 3 back")

    def test_what_is_heard(self):
        self.assertEqual(self.desk.say("heard 0"), "5")
        self.assertEqual(self.desk.say("heard 5/2"), "-7")
        self.assertEqual(self.desk.say("at 4"), "3")
        self.assertEqual(self.desk.say("at 6"), "0")
        self.desk.say("rest 0 3/2")
        self.desk.say("louder 300 1/3")
        self.assertEqual(self.desk.say("moment 5/3"), "5/2")
        self.assertEqual(self.desk.say("place 5/2"), "5/3")
        self.assertEqual(self.desk.say("heard 9/2"), "-7/3")
        self.assertEqual(self.desk.say("at 3"), "-7/3")
        self.assertEqual(self.desk.say("loudest b"), "7/3")

    def test_runs_and_rows(self):
        self.assertEqual(self.desk.say("runs b"), "0 6 300")
        self.assertEqual(self.desk.say("rows 0 7"), "0 2 5 5; 2 4 -7 -7; 4 6 3 3; 6 7 0 0")
        self.assertEqual(self.desk.say("rows 1/2 3/2"), "1/2 3/2 5 5")
        self.desk.say("out b 2 3")
        self.desk.say("move 400 1")
        self.assertEqual(self.desk.say("runs b"), "0 2 300; 3 6 400")
        self.desk.say("lane c")
        self.assertEqual(self.desk.say("runs c"), "-")
        self.assertEqual(self.desk.say("loudest c"), "0")

    def test_texts(self):
        self.assertEqual(Desk().say("sheet"), "tempo 1")
        self.assertEqual(Desk().say("board"), "")
        self.assertEqual(self.desk.say("sheet"), "tempo 1\ntake a 5,-7,3\nlane b 1 0\npiece 300 a 0 6 bound 0 1/2 0:1,6:1")
        self.desk.say("keep one")
        self.desk.say("undo 3")
        self.assertEqual(self.desk.say("board"), "stands take a 5,-7,3\nstands lane b\nback lay b a 0 6 bound 0 1/2 0:1,6:1\n"
                                                 "version one 1,2,3")

    def test_load(self):
        self.desk.say("keep one")
        text = self.desk.say("board")
        other = desk_of("lane z")
        self.assertEqual(other.say("load\n" + text), "ok")
        self.assertEqual(state_of(other), state_of(self.desk))
        self.assertEqual(other.say("cut 300 1"), self.desk.say("cut 300 1"))
        self.assertEqual(state_of(other), state_of(self.desk))
        self.assertEqual(other.say("load\n"), "ok")
        self.assertEqual(state_of(other), ("", "tempo 1"))
        self.assertEqual(other.say("load\nback lift 7"), "ok")
        self.assertEqual(other.say("deeds"), "1 back")

    def test_load_refused(self):
        was = state_of(self.desk)
        for text, row in [("\n", 0), ("lane b", 0), ("stands lane b\n", 1), ("stands lift 7", 1), ("stands lane b\nversion x 1\nload", 2),
                          ("load\n", 0), ("tempo 1", 0)]:
            with self.assertRaises(NoText) as caught:
                self.desk.say("load\n" + text)
            self.assertEqual(caught.exception.row, row)
            self.assertEqual(state_of(self.desk), was)
        for row in ["load", "load ", "load x", "load \n", "load x\nlane b", " load\n", "Load\n", "loads\n", "\nload\n"]:
            self.assertIs(refusal_of(self.desk.say, row), NoRow, row)
            self.assertEqual(state_of(self.desk), was)

    def test_as_the_functions_tell(self):
        for seed in range(500, 520):
            board = some_board(seed)
            desk = desk_of("load\n" + show_board(board))
            sheet = board.sheet()
            self.assertEqual(state_of(desk), (show_board(board), show_sheet(sheet)))
            for part in range(24):
                at = told(Fraction(part, 3))
                word = str(Fraction(*at))
                for ask, found in [("heard", heard(sheet, at)), ("at", heard_at(sheet, at)), ("moment", moment_of(sheet[0], at)),
                                   ("place", place_of(sheet[0], at))]:
                    self.assertEqual(desk.say(f"{ask} {word}"), str(Fraction(*found)))
            for lane in sheet[2]:
                self.assertEqual(desk.say(f"loudest {lane[0]}"), str(Fraction(*loudest_lane(sheet, lane[0]))))
                runs = [" ".join(map(str, run)) for run in runs_of(sheet, lane[0])]
                self.assertEqual(desk.say(f"runs {lane[0]}"), "; ".join(runs) or "-")
            rows = [" ".join([str(Fraction(*part)) for part in row]) for row in rows_heard(sheet, (1, 3), (12, 1))]
            self.assertEqual(desk.say("rows 1/3 12"), "; ".join(rows))

    def test_numbers_of_many_figures(self):
        great = 10 ** 3998 + 3
        self.assertEqual(self.desk.say(f"moment {great}/2"), f"{great}/2")
        self.assertEqual(self.desk.say(f"place {great}"), str(great))
        self.assertEqual(self.desk.say(f"heard {great}"), "0")
        self.assertEqual(self.desk.say(f"rest 1 {great}/7"), "1")
        self.assertEqual(self.desk.say("moment 2"), f"{great + 7}/7")
        self.assertIs(refusal_of(self.desk.say, f"undo {great}"), NoNumber)
        self.assertIs(refusal_of(self.desk.say, f"move 300 -{great}"), NoPlace)
        self.assertIs(refusal_of(self.desk.say, f"cut 300 {great}"), NoStep)


class Refusals(unittest.TestCase):
    def setUp(self):
        self.desk = desk_of(*FIRST, "keep one", "lane c")
        self.was = state_of(self.desk)

    def refused(self, refusal, row):
        self.assertIs(refusal_of(self.desk.say, row), refusal, row)

    def tearDown(self):
        self.assertEqual(state_of(self.desk), self.was)

    def test_what_is_no_text(self):
        for thing in [thing for thing in ANYTHING if not isinstance(thing, str)] + [b"sheet", ["sheet"], ("undo", 1), ["load\n"]]:
            self.refused(NoRow, thing)

    def test_words_that_are_none(self):
        for row in ["", " ", "-", "tempo", "tempo 1", "piece", "version one", "stands lane d", "Undo 1", "UNDO 1", "undos 1",
                    "undo1", "do lane d", "?", "1", "undo_all 1", "heard_at 1", " sheet", "raise_to 300 0", "say sheet"]:
            self.refused(NoRow, row)

    def test_too_few_and_too_many_words(self):
        for word in WHOLES + NAMES + FRACTIONS:
            for row in [word, word + " 1 1", word + " one one", word + " 1 ", word + "  1", word + "  ", word + "\t1"]:
                self.refused(NoRow, row)
        for word in ["between", "rows"]:
            for row in [word, word + " 1", word + " one", word + " ", word + " 1 2 3", word + " one one one", word + "   ", word + " 1 2 "]:
                self.refused(NoRow, row)
        for word in ALONE + ["load"]:
            for row in [word + " ", word + " 1", word + " one", " " + word, word + "  "]:
                self.refused(NoRow, row)

    def test_line_ends(self):
        rows = ["undo 3", "sheet", "board", "lane d", "heard 1", "go one", "deeds", "cut 300 2", "take b 1"]
        for row in rows + ["", "?"]:
            for other in [row + "\n", "\n" + row, row.replace(" ", "\n") + "\n", row + "\n" + row, row + "\nload\n"]:
                self.refused(NoRow, other)
        self.refused(NoRow, "keep tw\no")
        self.refused(NoRow, "heard 1\n/2")

    def test_numbers_not_so_written(self):
        for word in WHOLES:
            for other in NO_WHOLE_WORDS + ["1/2"]:
                self.refused(NoRow, f"{word} {other}")
        for word in FRACTIONS:
            for other in NO_FRACTION_WORDS:
                self.refused(NoRow, f"{word} {other}")
        for other in NO_FRACTION_WORDS:
            self.refused(NoRow, f"rows {other} 1")
            self.refused(NoRow, f"rows 1 {other}")

    def test_names_may_be_any_words(self):
        for name in ["", "A", "abcdefghi", "1", "-", "a-b", "two"]:
            self.refused(NoVersion, f"go {name}")
            self.refused(NoVersion, f"drop {name}")
            self.refused(NoVersion, f"between {name} one")
            self.refused(NoVersion, f"between one {name}")
            self.refused(NoLane, f"loudest {name}")
            self.refused(NoLane, f"runs {name}")
        for name in ["", "A", "abcdefghi", "1", "-", "a-b"]:
            self.refused(NoName, f"keep {name}")
        self.refused(NoVersion, "between  ")
        self.refused(Taken, "keep one")

    def test_as_the_functions_refuse(self):
        for row, refusal in [
                ("undo 0", NoNumber), ("undo -1", NoNumber), ("undo 5", NoNumber), ("all 9", NoNumber), ("again 1", NoNumber),
                ("leans 100", NoNumber), ("undo 1", Leaned), ("undo 2", Leaned), ("heard -1", NoMoment), ("heard -1/2", NoMoment),
                ("at -1", NoPlace), ("moment -1/3", NoPlace), ("place -1", NoMoment), ("rows 1 1", NoMoment), ("rows 2 1", NoMoment),
                ("rows -1 1", NoMoment), ("rows 0 401", NoMoment), ("rows 200000 200001", NoMoment), ("loudest z", NoLane),
                ("runs a", NoLane), ("lane b", Taken), ("unlane b", Used), ("lift 7", NoPiece), ("untake z", NoTake), ("rest -1 1", NoStep)]:
            self.refused(refusal, row)

    def test_leaned_tells_its_numbers(self):
        with self.assertRaises(Leaned) as caught:
            self.desk.say("undo 1")
        self.assertEqual(caught.exception.numbers, [3])

    def test_a_deeds_text_first(self):
        for word in WORDS:
            for row in [word, word + " ", word + "  1", word + " ?", word + " 1 1 1 1 1 1 1 1 1 1"]:
                with self.assertRaises(NoText) as caught:
                    self.desk.say(row)
                self.assertEqual(caught.exception.row, 0)
        for row in ["lane B", "lane b ", "lift 07", "gain b 2/4", "out  1 2", "lay b a 0 6 bound 0 1/2 0:1,3:1,6:1", "take a 1,", "rest 0 0/1"]:
            self.refused(NoText, row)

    def test_full_behind_a_deeds_text(self):
        full = desk_of(*[f"rest 0 {k + 1}" for k in range(60)])
        for row, refusal in [("rest 0 1", Full), ("lift 7", Full), ("rest 0 01", NoText), ("rest 0", NoText), ("rests 0 1", NoRow)]:
            self.assertIs(refusal_of(full.say, row), refusal)


class SideBySide(unittest.TestCase):
    def test_two_desks(self):
        one, other = desk_of(*FIRST), desk_of(*FIRST)
        was = state_of(one)
        for row in ["cut 300 2", "keep x", "undo 4", "load\nstands lane z", "all 1"]:
            other.say(row)
            self.assertEqual(state_of(one), was)
        self.assertEqual(state_of(Desk()), ("", "tempo 1"))

    def test_a_desk_and_the_board_of_its_text(self):
        board = Board()
        for deed in (TAKE, LANE, LAY):
            board.do(deed)
        desk = desk_of("load\n" + show_board(board))
        board.do(("cut", 300, 2))
        self.assertEqual(desk.say("runs b"), "0 6 300")
        desk.say("lift 300")
        self.assertEqual([piece[0] for piece in board.sheet()[2][0][3]], [300, 400])

    def test_as_a_board_is_told(self):
        for seed in range(600, 620):
            r = Random(seed)
            board, desk = some_board(seed, 6), Desk()
            desk.say("load\n" + show_board(board))
            for _ in range(10):
                deed = some_deed(r, board.sheet())
                k = r.randint(1, 12)
                for ask, row in [(lambda: board.do(deed), show_deed(deed)), (lambda: board.undo(k), f"undo {k}"),
                                 (lambda: board.again(k), f"again {k}"), (lambda: board.undo_all(k), f"all {k}")]:
                    if row[0] not in "ua" or r.random() < 0.3:
                        try:
                            expected = str(len(ask()))
                        except LaneError as refusal:
                            expected = (refusal.__class__, getattr(refusal, "numbers", None), None)
                        self.assertEqual(answer_of(desk, row), expected, row)
                        self.assertEqual(desk.say("board"), show_board(board))


if __name__ == "__main__":
    unittest.main()
