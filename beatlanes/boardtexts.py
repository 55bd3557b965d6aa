"""Boards' texts: a board written as its deeds and its versions, row by row, and read again."""

from beatlanes.boards import MOST_DEEDS, MOST_VERSIONS, board_of
from beatlanes.deedtexts import read_deed, show_deed
from beatlanes.errors import LaneError, NoText
from beatlanes.fracs import is_whole_within
from beatlanes.sheets import is_name
from beatlanes.texts import read_wholes, rows_of, show_wholes


def show_board(board):
    """The text of a board."""
    rows = [f"{word} {show_deed(deed)}" for _, deed, word in board.deeds()]
    for name in board.versions():
        numbers = board.standing_in(name)
        rows.append(f"version {name} {show_wholes(numbers) if numbers else '-'}")
    return "\n".join(rows)


def read_board(text):
    """A board of which the text tells the deeds and the versions."""
    # A text without signs has one row without any, but it is written of a board without rows.
    rows = [] if text == "" else rows_of(text)
    deeds = []
    standing = []
    versions = []
    for k, row in enumerate(rows):
        word, _, rest = row.partition(" ")
        try:
            if word == "version":
                versions.append(_version_of(rest, len(deeds), versions))
            else:
                deeds.append(_deed_of(word, rest, deeds, versions))
        except NoText:
            raise NoText(k) from None
        if word == "stands":
            standing.append(len(deeds))
    try:
        return board_of(deeds, standing, versions)
    except LaneError:
        raise NoText(len(rows)) from None


def _deed_of(word, text, deeds, versions):
    """The deed of a row behind other deeds and versions; NoText, row 0, where it may not come there."""
    if word not in ("stands", "back") or len(deeds) == MOST_DEEDS or versions:
        raise NoText(0)
    return read_deed(text)


def _version_of(text, most, versions):
    """The version (name, numbers) of a row behind so many deeds; NoText, row 0, where it may not come there."""
    name, _, told = text.partition(" ")
    if not is_name(name) or name in [version[0] for version in versions] or len(versions) == MOST_VERSIONS:
        raise NoText(0)
    numbers = [] if told == "-" else list(read_wholes(told))
    least = 1
    for number in numbers:
        if not is_whole_within(number, least, most):
            raise NoText(0)
        least = number + 1
    return (name, numbers)
