"""A desk: a board that is told rows of words, and answers each one with a text."""

from beatlanes.boards import Board
from beatlanes.boardtexts import read_board, show_board
from beatlanes.deeds import KINDS
from beatlanes.deedtexts import read_deed
from beatlanes.errors import NoRow, NoText
from beatlanes.grains import loudest_lane
from beatlanes.heard import heard, heard_at, runs_of
from beatlanes.rows import rows_heard
from beatlanes.tempo import moment_of, place_of
from beatlanes.texts import read_words, show_fraction, show_sheet, show_thing

# Of each row's word, but for deeds and load, of what kinds the things behind it are.
ASKED = {
    "undo": ("whole",),
    "all": ("whole",),
    "again": ("whole",),
    "go": ("word",),
    "between": ("word", "word"),
    "leans": ("whole",),
    "keep": ("word",),
    "drop": ("word",),
    "versions": (),
    "deeds": (),
    "heard": ("fraction",),
    "at": ("fraction",),
    "moment": ("fraction",),
    "place": ("fraction",),
    "loudest": ("word",),
    "runs": ("word",),
    "rows": ("fraction", "fraction"),
    "sheet": (),
    "board": (),
}


class Desk:
    """A board that is told rows."""

    def __init__(self):
        self.board = Board()

    def say(self, row):
        """The answer to a row."""
        if not isinstance(row, str):
            raise NoRow("it is no text")
        word, end, text = row.partition("\n")
        if end == "\n":
            if word != "load":
                raise NoRow("only load has rows behind it")
            self.board = read_board(text)
            return "ok"
        words = row.split(" ")
        if words[0] in KINDS:
            return _how_many(self.board.do(read_deed(row)))
        if words[0] not in ASKED:
            raise NoRow("no row begins with this word")
        try:
            things = read_words(ASKED[words[0]], words[1:])
        except NoText:
            raise NoRow("the words behind the first one are not what they are to be") from None
        return _answer_of_board(self.board, (words[0],) + things)


def _answer_of_board(board, asked):
    match asked:
        case ("undo", k):
            return _how_many(board.undo(k))
        case ("all", k):
            return _how_many(board.undo_all(k))
        case ("again", k):
            return _how_many(board.again(k))
        case ("go", name):
            return _how_many(board.go(name))
        case ("between", name, second):
            return _how_many(board.between(name, second))
        case ("leans", k):
            return _parted(" ", [str(number) for number in board.leans(k)])
        case ("keep", name):
            board.keep(name)
            return "ok"
        case ("drop", name):
            board.drop(name)
            return "ok"
        case ("versions",):
            return _parted(" ", board.versions())
        case ("deeds",):
            return _parted("; ", [f"{number} {word}" for number, _, word in board.deeds()])
        case ("board",):
            return show_board(board)
        case _:
            return _answer_of_sheet(board.sheet(), asked)


def _answer_of_sheet(sheet, asked):
    match asked:
        case ("heard", moment):
            return show_fraction(heard(sheet, moment))
        case ("at", place):
            return show_fraction(heard_at(sheet, place))
        case ("moment", place):
            return show_fraction(moment_of(sheet[0], place))
        case ("place", moment):
            return show_fraction(place_of(sheet[0], moment))
        case ("loudest", lane):
            return show_fraction(loudest_lane(sheet, lane))
        case ("runs", lane):
            return _shown_rows("whole", runs_of(sheet, lane))
        case ("rows", first, last):
            return _shown_rows("fraction", rows_heard(sheet, first, last))
        case ("sheet",):
            return show_sheet(sheet)


def _how_many(changes):
    return str(len(changes))


def _shown_rows(kind, rows):
    """Rows of things of one kind."""
    return _parted("; ", [" ".join([show_thing(kind, thing) for thing in row]) for row in rows])


def _parted(sign, texts):
    """The texts parted by a sign, a `-` without any."""
    return sign.join(texts) if texts else "-"
