import unittest
from random import Random

from beatlanes.boards import Board
from beatlanes.changes import changes
from beatlanes.deeds import done
from beatlanes.errors import Full, LaneError, Leaned, NoDeed, NoName, NoNumber, NoPiece, NoTake, NoVersion, Taken
from beatlanes.sheets import is_name
from tests.makings import flat, some_deed
from tests.things import ANYTHING, all_but, is_plainly_told, refusal_of

BARE = (((), (1, 1)), (), ())
TAKE = ("take", "a", (5, -7, 3))
LANE = ("lane", "b")
LAY = ("lay", "b", "a", 0, 6, "bound", (0, 1), (1, 1), flat(6))


def laid(at=0):
    return LAY[:3] + (at,) + LAY[4:]


class Model:
    """A board as the document tells of it: which deeds stand, and all else reckoned anew."""

    def __init__(self):
        self.told = []
        self.standing = []
        self.kept = []

    def walk(self, numbers, told=None):
        """The sheets and changes of deeds in order; where changes are told, what is not so is left out."""
        sheet, by_number, left_out = BARE, {}, []
        for k in numbers:
            try:
                behind = done(sheet, 100 * k, self.told[k - 1])
                rows = changes(sheet, behind)
            except LaneError:
                if told is None:
                    raise
                left_out.append(k)
                continue
            if told is not None and k in told and told[k] != rows:
                left_out.append(k)
                continue
            sheet, by_number[k] = behind, rows
        return sheet, by_number, left_out

    def sheet(self):
        return self.walk(self.standing)[0]

    def go_over(self, numbers):
        was = self.sheet()
        self.standing = sorted(numbers)
        return changes(was, self.sheet())

    def do(self, deed):
        if len(self.told) == 60:
            raise Full("")
        k = len(self.told) + 1
        done(self.sheet(), 100 * k, deed)
        self.told.append(deed)
        return self.go_over(self.standing + [k])

    def leans(self, k):
        if k not in self.standing:
            raise NoNumber("")
        told = self.walk(self.standing)[1]
        return self.walk([j for j in self.standing if j != k], told)[2]

    def undo(self, k):
        leaning = self.leans(k)
        if leaning:
            raise Leaned(leaning)
        return self.go_over([j for j in self.standing if j != k])

    def undo_all(self, k):
        gone = self.leans(k) + [k]
        return self.go_over([j for j in self.standing if j not in gone])

    def again(self, k):
        if k in self.standing or not 1 <= k <= len(self.told):
            raise NoNumber("")
        told = self.walk(self.standing)[1]
        done(self.walk([j for j in self.standing if j < k])[0], 100 * k, self.told[k - 1])
        leaning = self.walk(sorted(self.standing + [k]), told)[2]
        if leaning:
            raise Leaned(leaning)
        return self.go_over(self.standing + [k])

    def deeds(self):
        return [(k, deed, "stands" if k in self.standing else "back") for k, deed in enumerate(self.told, start=1)]

    def keep(self, name):
        if not is_name(name):
            raise NoName("")
        if name in self.versions():
            raise Taken("")
        self.kept.append((name, self.standing))

    def version(self, name):
        if name not in self.versions():
            raise NoVersion("")
        return dict(self.kept)[name]

    def go(self, name):
        return self.go_over(self.version(name))

    def drop(self, name):
        self.version(name)
        self.kept = [row for row in self.kept if row[0] != name]

    def versions(self):
        return [row[0] for row in self.kept]

    def between(self, name, second):
        return changes(self.walk(self.version(name))[0], self.walk(self.version(second))[0])


def answer_of(ask, *things):
    """What asking answers, or the class of what it is refused with, and the numbers that this tells."""
    try:
        return ask(*things)
    except LaneError as refusal:
        return (refusal.__class__, getattr(refusal, "numbers", None))


def state_of(board):
    return (board.sheet(), board.deeds(), board.versions())


def some_board(seed, many=14, model=None):
    """A board behind so many deeds, some of them back, with versions; a model is asked the same."""
    r = Random(seed)
    board = Board()
    for one in [one for one in (board, model) if one is not None]:
        for deed in (TAKE, LANE, ("take", "b", (2, 9)), ("lane", "a")):
            one.do(deed)
    for _ in range(many):
        deed = some_deed(r, board.sheet())
        asks = [("do", deed)]
        if r.random() < 0.3:
            asks.append((r.choice(["undo", "undo_all", "again"]), r.randint(1, len(board.deeds()))))
        if r.random() < 0.2:
            asks.append((r.choice(["keep", "keep", "go", "drop"]), r.choice("abc")))
        for ask, thing in asks:
            told = answer_of(getattr(board, ask), thing)
            if model is not None:
                assert told == answer_of(getattr(model, ask), thing), (seed, ask, thing)
    return board


class Do(unittest.TestCase):
    def test_an_empty_board(self):
        board = Board()
        self.assertEqual(state_of(board), (BARE, [], []))
        for ask in (board.undo, board.undo_all, board.again, board.leans):
            for k in (0, 1, -1):
                self.assertIs(refusal_of(ask, k), NoNumber)
        for ask in (board.go, board.drop):
            self.assertIs(refusal_of(ask, "a"), NoVersion)
        self.assertIs(refusal_of(board.between, "a", "a"), NoVersion)

    def test_deeds_tell_their_changes(self):
        board = Board()
        self.assertEqual(board.do(TAKE), [("take", "a", None, (5, -7, 3))])
        self.assertEqual(board.do(LANE), [("lane", "b", "there", False, True)])
        piece = (300, "a", 0, 6, "bound", (0, 1), (1, 1), flat(6))
        self.assertEqual(board.do(LAY), [("piece", 300, "there", None, ("b", piece))])
        self.assertEqual(board.do(("move", 300, 2)), [("piece", 300, "at", 0, 2)])
        self.assertEqual(board.do(("move", 300, 0)), [])
        self.assertEqual(board.sheet(), (((), (1, 1)), (TAKE[1:],), (("b", (1, 1), 0, (piece[:2] + (2,) + piece[3:],)),)))
        self.assertEqual(board.deeds(), [(1, TAKE, "stands"), (2, LANE, "stands"), (3, LAY, "stands"),
                                         (4, ("move", 300, 2), "stands"), (5, ("move", 300, 0), "stands")])

    def test_numbers_by_the_deeds_number(self):
        board = Board()
        for deed in (TAKE, LANE, LAY, ("cut", 300, 2), ("out", None, 1, 3), ("gap", "b", 1, 3), laid(9)):
            board.do(deed)
        self.assertEqual([piece[0] for piece in board.sheet()[2][0][3]], [300, 400, 700])
        board.do(("gap", None, 2, 1))
        board.do(("gap", None, 12, 1))
        self.assertEqual([piece[0] for piece in board.sheet()[2][0][3]], [300, 400, 700, 900])

    def test_refused_as_the_deed_is(self):
        board = Board()
        for deed in (TAKE, LANE, LAY):
            board.do(deed)
        was = state_of(board)
        for deed, refusal in [(("lift", 301), NoPiece), (TAKE, Taken), (LAY[:2] + ("b",) + LAY[3:], NoTake)]:
            self.assertIs(refusal_of(board.do, deed), refusal)
            self.assertEqual(state_of(board), was)
        # One that is refused has no number.
        board.do(("cut", 300, 2))
        self.assertEqual(board.deeds()[-1], (4, ("cut", 300, 2), "stands"))
        self.assertEqual([piece[0] for piece in board.sheet()[2][0][3]], [300, 400])

    def test_no_deed(self):
        board = Board()
        for thing in ANYTHING + [["lane", "b"], ("lane",), ("lane", "b", 1), ("undo", 1), (["lane"], "b")]:
            self.assertIs(refusal_of(board.do, thing), NoDeed)
        self.assertEqual(state_of(board), (BARE, [], []))

    def test_sixty_deeds_and_one_more(self):
        board = Board()
        for k in range(60):
            board.do(("rest", 0, (k + 1, 1)))
        was = state_of(board)
        for deed, refusal in [(("rest", 0, (1, 1)), Full), (("rest", -1, (1, 1)), Full), (("lift", 1), Full), (("rest", 0), NoDeed),
                              (None, NoDeed)]:
            self.assertIs(refusal_of(board.do, deed), refusal)
            self.assertEqual(state_of(board), was)
        # Those that are back are counted.
        board.undo(60)
        board.undo_all(59)
        self.assertIs(refusal_of(board.do, ("rest", 0, (1, 1))), Full)
        board.again(60)
        self.assertEqual(board.sheet()[0], ((), (60, 1)))

    def test_those_that_are_back_count_for_the_number(self):
        board = Board()
        for deed in (TAKE, LANE, LAY):
            board.do(deed)
        board.undo(3)
        board.do(LAY)
        self.assertEqual([piece[0] for piece in board.sheet()[2][0][3]], [400])
        self.assertEqual([row[0] for row in board.deeds()], [1, 2, 3, 4])


class Leans(unittest.TestCase):
    def setUp(self):
        self.board = Board()
        for deed in (TAKE, LANE, LAY, ("cut", 300, 2), ("move", 400, 5), ("take", "b", (1,)), ("gain", "b", (2, 1)), ("rest", 0, (2, 1))):
            self.board.do(deed)

    def test_by_refusals(self):
        self.assertEqual([self.board.leans(k) for k in range(1, 9)], [[3, 4, 5], [3, 4, 5, 7], [4, 5], [5], [], [], [], []])

    def test_by_other_changes(self):
        self.board.do(("gain", "b", (3, 1)))
        self.board.do(("rest", 0, (2, 1)))
        self.board.do(("rest", 0, (5, 1)))
        # Without the first gain the second one tells (1, 1) ahead of it; a rest as it is already tells nothing.
        self.assertEqual(self.board.leans(7), [9])
        self.assertEqual(self.board.leans(8), [10])
        self.assertEqual(self.board.leans(10), [])
        self.board.do(("louder", 300, (1, 2)))
        self.board.do(("louder", 300, (1, 2)))
        self.assertEqual(self.board.leans(12), [13])
        self.assertEqual(self.board.leans(13), [])

    def test_what_is_left_out_does_not_count_further(self):
        board = Board()
        for deed in (LANE, ("lane", "a"), ("order", "a", 0), ("gain", "b", (2, 1)), ("gain", "b", (3, 1)), ("gain", "b", (1, 1)),
                     ("gain", "b", (2, 1))):
            board.do(deed)
        # Without 4 the deed 5 tells otherwise; without both, 6 tells nothing; without all, 7 is as 4 was.
        self.assertEqual(board.leans(4), [5, 6])
        # Without 5 the deed 6 goes from 2; the last one stands on 1 without it.
        self.assertEqual(board.leans(5), [6, 7])
        self.assertEqual(board.leans(6), [7])

    def test_lists_are_new_ones(self):
        found = self.board.leans(1)
        found.append(99)
        found[0] = None
        self.assertEqual(self.board.leans(1), [3, 4, 5])

    def test_numbers_that_are_none(self):
        self.board.undo(8)
        was = state_of(self.board)
        numbers = all_but(lambda thing: thing in (1, 7) and type(thing) is int, [8, 9, 0, -1, 60, 100, 10 ** 60, (1, 1), "1"])
        for thing in numbers:
            for ask in (self.board.leans, self.board.undo, self.board.undo_all):
                self.assertIs(refusal_of(ask, thing), NoNumber, thing)
        for thing in all_but(lambda thing: False, [1, 2, 7, 9, 0, -1, 100, (8, 1), "8", [8]]):
            self.assertIs(refusal_of(self.board.again, thing), NoNumber, thing)
        self.assertEqual(state_of(self.board), was)
        self.assertEqual(self.board.again(8), [("tempo", 0, None)])


class Back(unittest.TestCase):
    def setUp(self):
        self.board = Board()
        for deed in (TAKE, LANE, LAY, ("cut", 300, 2), ("move", 400, 5), ("rest", 0, (2, 1))):
            self.board.do(deed)

    def test_undo_refused_with_those_that_lean(self):
        was = state_of(self.board)
        for k, numbers in [(1, [3, 4, 5]), (2, [3, 4, 5]), (3, [4, 5]), (4, [5])]:
            with self.assertRaises(Leaned) as caught:
                self.board.undo(k)
            self.assertIs(caught.exception.__class__, Leaned)
            self.assertEqual(caught.exception.numbers, numbers)
            caught.exception.numbers.append(1)
            self.assertEqual(self.board.leans(k), numbers)
            self.assertEqual(state_of(self.board), was)

    def test_undo(self):
        self.assertEqual(self.board.undo(5), [("piece", 400, "at", 7, 2)])
        self.assertEqual([row[2] for row in self.board.deeds()], ["stands"] * 4 + ["back", "stands"])
        self.assertIs(refusal_of(self.board.undo, 5), NoNumber)
        self.assertEqual([row[1:3] + (row[3] is None,) for row in self.board.undo(4)],
                         [(300, "many", False), (300, "shape", False), (400, "there", False)])
        self.assertEqual(self.board.undo(6), [("tempo", 0, None)])
        self.assertEqual([piece[0] for piece in self.board.sheet()[2][0][3]], [300])

    def test_undo_all(self):
        self.assertEqual([row[:3] for row in self.board.undo_all(1)],
                         [("take", "a", (5, -7, 3)), ("piece", 300, "there"), ("piece", 400, "there")])
        self.assertEqual([row[2] for row in self.board.deeds()], ["back", "stands", "back", "back", "back", "stands"])
        self.assertEqual(self.board.sheet(), (((), (2, 1)), (), (("b", (1, 1), 0, ()),)))
        self.assertEqual(self.board.undo_all(6), [("tempo", 0, None)])

    def test_a_deed_taken_back_alone_and_done_again(self):
        for k in (5, 6):
            was = state_of(self.board)
            rows = self.board.undo(k)
            again = self.board.again(k)
            self.assertEqual(state_of(self.board), was)
            self.assertEqual([row[:3] for row in again], [row[:3] for row in rows])

    def test_again_at_its_place(self):
        self.board.undo_all(3)
        self.assertEqual(self.board.do(LAY)[0][1], 700)
        self.board.again(3)
        # It lies below the one that was laid behind it.
        self.assertEqual([piece[0] for piece in self.board.sheet()[2][0][3]], [300, 700])
        self.board.again(4)
        self.assertEqual([piece[0] for piece in self.board.sheet()[2][0][3]], [300, 400, 700])
        self.assertEqual(self.board.again(5), [("piece", 400, "at", 2, 7)])

    def test_again_refused_as_the_deed_is(self):
        self.board.undo_all(1)
        was = state_of(self.board)
        self.assertIs(refusal_of(self.board.again, 3), NoTake)
        self.assertIs(refusal_of(self.board.again, 4), NoPiece)
        self.assertEqual(state_of(self.board), was)
        self.board.do(TAKE)
        # At its place it isn't refused, but the later one is then.
        with self.assertRaises(Leaned) as caught:
            self.board.again(1)
        self.assertEqual(caught.exception.numbers, [7])
        self.assertIs(refusal_of(self.board.again, 3), NoTake)

    def test_again_refused_where_others_are_then_otherwise(self):
        board = Board()
        for deed in (LANE, ("gain", "b", (2, 1)), ("gain", "b", (3, 1)), ("gain", "b", (4, 1)), ("hush", "b", 1)):
            board.do(deed)
        board.undo(4)
        board.undo(3)
        board.undo(2)
        board.again(4)
        was = state_of(board)
        # With 2 or 3 at its place the deed 4 would tell another gain ahead.
        for k in (2, 3):
            with self.assertRaises(Leaned) as caught:
                board.again(k)
            self.assertEqual(caught.exception.numbers, [4])
            self.assertEqual(state_of(board), was)
        board.undo(4)
        board.again(2)
        board.again(3)
        board.again(4)
        self.assertEqual([row[2] for row in board.deeds()], ["stands"] * 5)

    def test_those_left_out_are_left_out_on_the_way(self):
        board = Board()
        for deed in (LANE, ("gain", "b", (2, 1))):
            board.do(deed)
        board.undo(2)
        for deed in (("gain", "b", (3, 1)), ("gain", "b", (2, 1)), ("gain", "b", (3, 1)), ("hush", "b", 1)):
            board.do(deed)
        # 3 tells (2, 1) ahead and is left out, then 4 tells nothing and is left out, then 5 is as it was.
        with self.assertRaises(Leaned) as caught:
            board.again(2)
        self.assertEqual(caught.exception.numbers, [3, 4])

    def test_lists_are_new_ones(self):
        board = Board()
        found = board.do(LANE)
        found.clear()
        rows = board.deeds()
        rows[0] = None
        board.deeds().append(1)
        board.versions().append("a")
        self.assertEqual(board.deeds(), [(1, LANE, "stands")])
        self.assertEqual(board.versions(), [])
        board.do(("hush", "b", 1))
        # What a deed tells is what those that lean on it are known by.
        self.assertEqual(board.leans(1), [2])
        self.assertEqual(board.leans(2), [])
        board.undo(2).append(1)
        board.again(2).clear()
        self.assertEqual(board.leans(1), [2])
        self.assertEqual(board.sheet(), (((), (1, 1)), (), (("b", (1, 1), 1, ()),)))


class Versions(unittest.TestCase):
    def setUp(self):
        self.board = Board()
        for deed in (TAKE, LANE, LAY):
            self.board.do(deed)
        self.board.keep("laid")
        self.board.do(("move", 300, 3))
        self.board.keep("moved")

    def test_kept_and_gone_to(self):
        moved = self.board.sheet()
        self.assertEqual(self.board.versions(), ["laid", "moved"])
        self.assertEqual(self.board.go("laid"), [("piece", 300, "at", 3, 0)])
        self.assertEqual([row[2] for row in self.board.deeds()], ["stands"] * 3 + ["back"])
        self.assertEqual(self.board.go("laid"), [])
        self.assertEqual(self.board.go("moved"), [("piece", 300, "at", 0, 3)])
        self.assertEqual(self.board.sheet(), moved)

    def test_deeds_done_behind_a_version_are_back(self):
        self.board.do(("lift", 300))
        self.board.do(("unlane", "b"))
        self.assertEqual([row[:3] for row in self.board.go("laid")], [("lane", "b", "there"), ("piece", 300, "there")])
        self.assertEqual([row[2] for row in self.board.deeds()], ["stands"] * 3 + ["back"] * 3)
        self.assertEqual(self.board.again(4), [("piece", 300, "at", 0, 3)])
        self.assertIs(refusal_of(self.board.again, 6), self.refused_as_used())
        self.board.undo(4)
        self.board.again(5)
        self.board.again(6)
        self.assertEqual(self.board.sheet()[2], ())

    def refused_as_used(self):
        return refusal_of(done, self.board.sheet(), 1, ("unlane", "b"))

    def test_deeds_that_were_back_are_done_by_going(self):
        self.board.undo_all(1)
        self.board.keep("gone")
        self.assertEqual(self.board.sheet(), (((), (1, 1)), (), (("b", (1, 1), 0, ()),)))
        self.board.go("moved")
        self.assertEqual([row[2] for row in self.board.deeds()], ["stands"] * 4)
        self.board.go("gone")
        self.assertEqual([row[2] for row in self.board.deeds()], ["back", "stands", "back", "back"])

    def test_a_version_stays_whatever_is_done_later(self):
        self.board.undo_all(3)
        self.board.do(LAY)
        self.board.go("moved")
        self.assertEqual([row[2] for row in self.board.deeds()], ["stands"] * 4 + ["back"])
        self.assertEqual(self.board.leans(3), [4])
        self.board.undo(4)
        self.board.go("moved")
        self.assertEqual(self.board.sheet()[2][0][3][0][2], 3)

    def test_the_bare_board_as_a_version(self):
        board = Board()
        board.keep("bare")
        board.do(LANE)
        self.assertEqual(board.go("bare"), [("lane", "b", "there", True, False)])
        self.assertEqual(board.deeds(), [(1, LANE, "back")])

    def test_between(self):
        self.board.go("laid")
        self.board.undo(3)
        was = state_of(self.board)
        self.assertEqual(self.board.between("laid", "moved"), [("piece", 300, "at", 0, 3)])
        self.assertEqual(self.board.between("moved", "laid"), [("piece", 300, "at", 3, 0)])
        self.assertEqual(self.board.between("moved", "moved"), [])
        self.assertEqual(state_of(self.board), was)
        for names in [("laid", "other"), ("other", "laid"), ("other", "none"), (None, "laid"), ("laid", ["laid"])]:
            self.assertIs(refusal_of(self.board.between, *names), NoVersion)

    def test_let_go(self):
        sheet = self.board.sheet()
        self.assertIsNone(self.board.drop("laid"))
        self.assertEqual(self.board.versions(), ["moved"])
        self.assertIs(refusal_of(self.board.drop, "laid"), NoVersion)
        self.assertIs(refusal_of(self.board.go, "laid"), NoVersion)
        self.assertIs(refusal_of(self.board.between, "laid", "moved"), NoVersion)
        self.assertEqual(self.board.sheet(), sheet)
        # Kept again, it is the last one.
        self.assertIsNone(self.board.keep("laid"))
        self.assertEqual(self.board.versions(), ["moved", "laid"])
        self.assertEqual(self.board.between("moved", "laid"), [])

    def test_refusals(self):
        was = state_of(self.board)
        for thing in all_but(is_name, ["abcdefghi", "A", "a b", "", "a1"]):
            self.assertIs(refusal_of(self.board.keep, thing), NoName)
            for ask in (self.board.go, self.board.drop):
                self.assertIs(refusal_of(ask, thing), NoVersion)
        for name in ("laid", "moved"):
            self.assertIs(refusal_of(self.board.keep, name), Taken)
        self.assertEqual(state_of(self.board), was)

    def test_sixty_versions_and_one_more(self):
        names = [first + second for first in "abcdefgh" for second in "abcdefgh"][:58]
        for name in names:
            self.board.keep(name)
        was = state_of(self.board)
        self.assertEqual(len(was[2]), 60)
        self.assertIs(refusal_of(self.board.keep, "other"), Full)
        self.assertIs(refusal_of(self.board.keep, "laid"), Taken)
        self.assertIs(refusal_of(self.board.keep, "Other"), NoName)
        self.assertEqual(state_of(self.board), was)
        self.board.drop("laid")
        self.board.keep("other")
        self.assertEqual(self.board.versions(), ["moved"] + names + ["other"])


class All(unittest.TestCase):
    def test_as_the_model_tells(self):
        for seed in range(60):
            model = Model()
            board = some_board(seed, 14, model)
            self.assertEqual(state_of(board), state_of(model))
            for k in range(len(board.deeds()) + 2):
                for ask in ("leans", "undo", "again", "undo_all"):
                    if ask == "leans" or k % 3 == 0:
                        self.assertEqual(answer_of(getattr(board, ask), k), answer_of(getattr(model, ask), k), (seed, ask, k))
                        self.assertEqual(state_of(board), state_of(model))
            for name in "abcd":
                for second in "abcd":
                    self.assertEqual(answer_of(board.between, name, second), answer_of(model.between, name, second))
                self.assertEqual(answer_of(board.go, name), answer_of(model.go, name))
                self.assertEqual(board.sheet(), model.sheet())

    def test_each_deed_that_none_leans_on_is_taken_back_and_done_again(self):
        for seed in range(100, 120):
            board = some_board(seed)
            was = state_of(board)
            for k in [row[0] for row in board.deeds() if row[2] == "stands"]:
                if board.leans(k):
                    self.assertIs(refusal_of(board.undo, k), Leaned)
                else:
                    board.undo(k)
                    board.again(k)
                self.assertEqual(state_of(board), was)

    def test_the_sheet_is_what_comes_of_the_deeds_that_stand(self):
        for seed in range(200, 230):
            board = some_board(seed)
            sheet = BARE
            for k, deed, word in board.deeds():
                if word == "stands":
                    sheet = done(sheet, 100 * k, deed)
            self.assertEqual(board.sheet(), sheet)
            self.assertTrue(is_plainly_told(board.sheet()))
            self.assertTrue(is_plainly_told(board.deeds()))

    def test_two_boards_side_by_side(self):
        one, other = Board(), Board()
        alone = Board()
        r = Random(35)
        for deed in (TAKE, LANE, LAY):
            for board in (one, other, alone):
                board.do(deed)
        for k in range(12):
            deed = some_deed(r, other.sheet())
            answer_of(other.do, deed)
            answer_of(other.undo_all, r.randint(1, 9))
            answer_of(other.keep, "abcdefghijkl"[k])
            self.assertEqual(state_of(one), state_of(alone))
            self.assertEqual([one.leans(k) for k in (1, 2, 3)], [alone.leans(k) for k in (1, 2, 3)])
        self.assertEqual(one.do(("move", 300, 1)), alone.do(("move", 300, 1)))
        self.assertEqual(one.versions(), [])

    def test_whatever_is_asked_ahead(self):
        quiet, asked = Board(), Board()
        r = Random(36)
        for deed in (TAKE, LANE, LAY) + tuple(some_deed(r, Board().sheet()) for _ in range(9)):
            for k in range(1, 12):
                answer_of(asked.leans, k)
            asked.deeds(), asked.sheet(), asked.versions(), answer_of(asked.between, "a", "b")
            self.assertEqual(answer_of(asked.do, deed), answer_of(quiet.do, deed))
        self.assertEqual(state_of(asked), state_of(quiet))


if __name__ == "__main__":
    unittest.main()
