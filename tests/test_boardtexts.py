import unittest
from random import Random

from beatlanes.boards import Board
from beatlanes.boardtexts import read_board, show_board
from beatlanes.deeds import done
from beatlanes.deedtexts import show_deed
from beatlanes.errors import LaneError, NoText
from tests.makings import some_deed
from tests.test_boards import BARE, LANE, LAY, TAKE, answer_of, some_board, state_of
from tests.test_deedtexts import told_by_patterns as deed_of
from tests.things import ANYTHING, refusal_of
from tests.writing import NAME, WHOLE, is_written, spoilt_rows, spoilt_texts

TEXT = """stands take a 5,-7,3
stands lane b
stands lay b a 0 6 bound 0 1 0:1,6:1
back move 300 2
stands gap - 3 2
back lift 300
version one 1,2,3
version none -
version all 1,2,3,4,5"""
ROWS = TEXT.split("\n")


def told_by_patterns(text):
    """The deeds, the numbers of those that stand and the versions of a text, or the row as which it is refused."""
    rows = text.split("\n") if text else []
    deeds, standing, versions = [], [], []
    for k, row in enumerate(rows):
        word, *rest = row.split(" ")
        if word in ("stands", "back") and not versions and len(deeds) < 60 and deed_of(" ".join(rest)) is not None:
            deeds.append(deed_of(" ".join(rest)))
            standing += [len(deeds)] if word == "stands" else []
            continue
        if word != "version" or len(rest) != 2 or len(versions) == 60 or not is_written(NAME, rest[0]):
            return k
        if rest[0] in dict(versions) or rest[1] != "-" and not is_written(f"{WHOLE}(,{WHOLE})*", rest[1]):
            return k
        numbers = [] if rest[1] == "-" else [int(part) for part in rest[1].split(",")]
        if numbers != sorted(set(numbers)) or numbers and not 1 <= numbers[0] <= numbers[-1] <= len(deeds):
            return k
        versions.append((rest[0], numbers))
    for numbers in [standing] + [numbers for _, numbers in versions]:
        sheet = BARE
        for k in numbers:
            try:
                sheet = done(sheet, 100 * k, deeds[k - 1])
            except LaneError:
                return len(rows)
    return deeds, standing, versions


def row_refused(text):
    """The row as which the text is refused; the board that is read of it, where it is not."""
    try:
        return read_board(text)
    except NoText as refusal:
        assert refusal.__class__ is NoText
        return refusal.row


def all_of(board):
    """All that a board tells, also of what lies in its versions."""
    names = board.versions()
    leans = [answer_of(board.leans, k) for k in range(1, len(board.deeds()) + 1)]
    return state_of(board) + (leans, [board.between(name, second) for name in names for second in names], show_board(board))


class ThereAndBack(unittest.TestCase):
    def same(self, board):
        text = show_board(board)
        other = read_board(text)
        self.assertIs(other.__class__, Board)
        self.assertEqual(all_of(other), all_of(board))
        self.assertEqual(show_board(other), text)
        return other

    def test_the_empty_board(self):
        self.assertEqual(show_board(Board()), "")
        self.assertEqual(all_of(read_board("")), all_of(Board()))
        self.same(Board())

    def test_row_by_row(self):
        board = read_board(TEXT)
        self.assertEqual(show_board(board), TEXT)
        self.assertEqual([row[2] for row in board.deeds()], ["stands", "stands", "stands", "back", "stands", "back"])
        self.assertEqual(board.deeds()[3], (4, ("move", 300, 2), "back"))
        self.assertEqual(board.versions(), ["one", "none", "all"])
        self.assertEqual(board.between("none", "one")[0], ("take", "a", None, (5, -7, 3)))
        self.same(board)

    def test_as_it_is_written_of_a_board(self):
        board = Board()
        for deed in (TAKE, LANE, LAY, ("move", 300, 2)):
            board.do(deed)
        board.keep("moved")
        board.undo(4)
        board.do(("rest", 0, (5, 2)))
        board.keep("b")
        board.undo_all(1)
        board.undo(2)
        board.keep("none")
        self.assertEqual(show_board(board), "back take a 5,-7,3\nback lane b\nback lay b a 0 6 bound 0 1 0:1,6:1\nback move 300 2\n"
                                            "stands rest 0 5/2\nversion moved 1,2,3,4\nversion b 1,2,3,5\nversion none 5")
        self.same(board)
        board.drop("b")
        self.assertEqual(show_board(board).split("\n")[5:], ["version moved 1,2,3,4", "version none 5"])

    def test_behind_further_deeds_the_same_in_all(self):
        for seed in range(300, 330):
            board = some_board(seed)
            other = self.same(board)
            r = Random(seed)
            for _ in range(12):
                deed = some_deed(r, board.sheet())
                k, name = r.randint(1, 16), r.choice("abc")
                for ask, thing in [("do", deed), ("undo", k), ("again", k), ("go", name), ("undo_all", k), ("keep", name), ("drop", name)]:
                    if ask == "do" or r.random() < 0.3:
                        self.assertEqual(answer_of(getattr(other, ask), thing), answer_of(getattr(board, ask), thing))
                        self.assertEqual(state_of(other), state_of(board))
            self.same(board)

    def test_the_board_that_is_read_and_the_one_it_was_written_of_side_by_side(self):
        board = some_board(331)
        text = show_board(board)
        was = all_of(board)
        other = read_board(text)
        other.undo_all(1)
        other.do(("rest", 0, (9, 7)))
        other.keep("new")
        self.assertEqual(all_of(board), was)
        self.assertEqual(all_of(read_board(text)), was)
        now = all_of(other)
        board.do(("rest", 0, (1, 9)))
        board.undo_all([row[0] for row in board.deeds() if row[2] == "stands"][0])
        self.assertEqual(all_of(other), now)

    def test_sixty_deeds_and_sixty_versions(self):
        board = Board()
        for k in range(60):
            board.do(("rest", 0, (k + 1, 7 if k != 6 and (k + 1) % 7 else 1)))
            if k % 3 == 2:
                board.undo(k + 1)
            board.keep("abcdefghij"[k % 10] + "klmnop"[k // 10])
        other = self.same(board)
        self.assertEqual(len(other.deeds()), 60)
        self.assertEqual(len(other.versions()), 60)

    def test_deeds_that_are_back_may_be_any(self):
        for text in ["back lift 7", "back gain x -5/3", "back move " + "9" * 3999 + " -1", "back lift 7\nstands lane a\nback lane a",
                     "back lay a a -5 0 free -1 0 3:1,7:2", "back hush a -7\nversion x -"]:
            board = read_board(text)
            self.assertEqual(show_board(board), text)
            self.assertIsNotNone(refusal_of(board.again, 1))
            self.assertEqual(show_board(board), text)
        self.assertEqual(read_board("back lane a\nversion x 1").sheet(), BARE)


class NoBoardText(unittest.TestCase):
    def assert_row(self, text, row):
        self.assertEqual(row_refused(text), row, text[:300])
        self.assertEqual(told_by_patterns(text), row)

    def with_row(self, k, row):
        return "\n".join(ROWS[:k] + [row] + ROWS[k + 1:])

    def test_what_is_no_text(self):
        for thing in [thing for thing in ANYTHING if not isinstance(thing, str)] + [b"", [TEXT], (TEXT,)]:
            self.assertEqual(row_refused(thing), 0)

    def test_rows_that_are_not_so_written(self):
        for k, row in enumerate(ROWS):
            words = row.split(" ")
            for other in [row + " ", " " + row, row.replace(" ", "  "), row.upper(), "", " ", "stands", "back", "version", "stand lane c",
                          "stands stands lane c", "stands undo 1", "lane c", " ".join(words[1:]), " ".join(words[:-1]), "tempo 1",
                          "version x", "version x ", "version x  -", "version x -,1", "version x ,1", "version x 1,", "version x 01",
                          "version x 1 2", "version x 1, 2", "version X 1", "version abcdefghi 1", "version - 1", "version  1",
                          "versions x 1", "stands lane -", "back lane C", "stands hush b one"]:
                self.assert_row(self.with_row(k, other), k)
            self.assert_row("\n".join(ROWS[:k + 1]) + "\n", k + 1)
        self.assert_row("\n", 0)
        self.assert_row(TEXT + "\n", len(ROWS))
        self.assert_row("\n" + TEXT, 0)

    def test_deeds_behind_versions(self):
        self.assert_row(TEXT + "\nstands lane c", len(ROWS))
        self.assert_row("version x -\nback lane c", 1)
        self.assert_row("\n".join(ROWS[:3] + ROWS[6:7] + ROWS[3:]), 4)

    def test_numbers_of_versions(self):
        for k in (6, 7, 8):
            for numbers in ["0", "-1", "7", "1,7", "0,1", "2,1", "1,1", "1,3,2", "1,2,2", "10", "9" * 3999, "1/2", "+1", "1,-", "-,-", "--"]:
                self.assert_row(self.with_row(k, "version x " + numbers), k)
        for numbers in ["1", "2", "1,2,3", "1,2,3,4,5,6", "-", "1,2,3,6"]:
            self.assertIsInstance(row_refused(self.with_row(6, "version x " + numbers)), Board)
        self.assert_row("version x 1", 0)
        self.assertIsInstance(row_refused("version x -"), Board)

    def test_names_told_twice(self):
        self.assert_row(TEXT + "\nversion none 1", len(ROWS))
        self.assert_row(TEXT + "\nversion new -\nversion new -", len(ROWS) + 1)
        self.assert_row("version a -\nversion a -\nversion a -", 1)

    def test_sixty_one_rows(self):
        deeds = ["back lift 1"] * 60
        names = [first + second for first in "abcdefghij" for second in "klmnop"]
        versions = [f"version {name} -" for name in names]
        self.assertIsInstance(row_refused("\n".join(deeds + versions)), Board)
        self.assert_row("\n".join(deeds + deeds[:1]), 60)
        self.assert_row("\n".join(deeds + deeds[:1] + versions), 60)
        self.assert_row("\n".join(deeds[:5] + versions + ["version one -"]), 65)
        self.assert_row("\n".join(versions + ["version one -", "?"]), 60)
        self.assert_row("\n".join(deeds + ["stands lane a", "?"]), 60)

    def test_the_count_of_rows_where_not_all_are_let_by(self):
        for text in ["stands lift 1", "stands lane a\nstands lane a", "stands lane a\nback lane a\nversion x 1,2", "back lift 1\nversion x 1",
                     TEXT.replace("stands lane b", "back lane b"), TEXT + "\nversion more 1,3", TEXT + "\nversion more 4",
                     "stands gain a -1", "stands rest 0 0", "stands lane a\nstands gain a -1/2", TEXT.replace("back move", "stands move") +
                     "\nversion more 6", "stands take a 1\nstands lane b\nstands lay b a -1 4 free 0 1 0:1,4:1"]:
            self.assert_row(text, text.count("\n") + 1)
        # A row that is none goes ahead of it.
        self.assert_row("stands lift 1\nstands lane a\n?", 2)

    def test_changes_do_not_count(self):
        # A version's deeds may tell otherwise than they do among those that stand.
        text = "stands lane a\nstands gain a 2\nback gain a 3\nstands gain a 4\nversion x 1,2,3,4\nversion y 1,4\nversion z 1,3"
        board = read_board(text)
        self.assertEqual(show_board(board), text)
        self.assertEqual(board.leans(2), [4])
        self.assertEqual(board.between("y", "z"), [("lane", "a", "gain", (4, 1), (3, 1))])

    def test_numbers_go_by_the_rows(self):
        text = "stands take a 1\nstands lane b\nback lift 7\nstands lay b a 0 6 bound 0 1 0:1,6:1\nstands cut 400 2"
        self.assertEqual([piece[0] for piece in read_board(text).sheet()[2][0][3]], [400, 500])
        self.assert_row(text.replace("cut 400", "cut 300"), 5)

    def test_a_sign_otherwise(self):
        r = Random(40)
        texts = [TEXT] + [show_board(some_board(seed, 8)) for seed in range(400, 408)]
        for text in texts:
            for other in list(spoilt_texts(r, text, 80)) + list(spoilt_rows(r, text, 30)):
                found, expected = row_refused(other), told_by_patterns(other)
                if isinstance(found, Board):
                    deeds, standing, versions = expected
                    self.assertEqual([row[1] for row in found.deeds()], deeds)
                    self.assertEqual([row[0] for row in found.deeds() if row[2] == "stands"], standing)
                    self.assertEqual(found.versions(), [name for name, _ in versions])
                    self.assertEqual(show_board(found), other)
                else:
                    self.assertEqual(found, expected, other)

    def test_each_deed_is_written_as_by_itself(self):
        board = some_board(410)
        for row, (_, deed, word) in zip(show_board(board).split("\n"), board.deeds()):
            self.assertEqual(row, f"{word} {show_deed(deed)}")


if __name__ == "__main__":
    unittest.main()
