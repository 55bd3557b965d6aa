"""Boards: deeds that are done and taken back, out of the midst too, and versions that are kept and gone back to."""

from beatlanes.changes import changes_between
from beatlanes.deeds import behind_deed, refuse_no_deed
from beatlanes.errors import Full, LaneError, Leaned, NoName, NoNumber, NoVersion, Taken
from beatlanes.fracs import is_whole_within
from beatlanes.sheets import is_name

EMPTY = (((), (1, 1)), (), ())
MOST_DEEDS = 60
MOST_VERSIONS = 60
# The i-th deed gives numbers from so many times i on.
NUMBERS_EACH = 100


class Board:
    """A sheet by the deeds of which it comes.

    A row tells of each deed that stands, in order, its number, the sheet behind it and the changes that it tells.
    """

    def __init__(self):
        self.told = []
        self.row = []
        self.kept = []

    def do(self, deed):
        """Does a deed and tells what became otherwise."""
        refuse_no_deed(deed)
        if len(self.told) == MOST_DEEDS:
            raise Full("as many deeds were done as may be")
        k = len(self.told) + 1
        step = _step_of(k, deed, self.sheet())
        self.told.append(deed)
        self.row.append(step)
        return list(step[2])

    def leans(self, k):
        """The numbers of the deeds that lean on a standing one."""
        return self._without(self._place_of(k))[1]

    def undo(self, k):
        """Takes a standing deed back on which none leans, and tells what became otherwise."""
        row, leaning = self._without(self._place_of(k))
        if leaning:
            raise Leaned(leaning)
        return self._go_over_to(row)

    def undo_all(self, k):
        """Takes a standing deed back and all that lean on it, and tells what became otherwise."""
        row, _ = self._without(self._place_of(k))
        return self._go_over_to(row)

    def again(self, k):
        """Does a deed that is back again at its place, and tells what became otherwise."""
        standing = [step[0] for step in self.row]
        if not is_whole_within(k, 1, len(self.told)) or k in standing:
            raise NoNumber("no deed that is back has this number")
        at = len([number for number in standing if number < k])
        row = self.row[:at]
        row.append(_step_of(k, self.told[k - 1], _sheet_behind(row)))
        row, leaning = self._gone_on(row, self.row[at:])
        if leaning:
            raise Leaned(leaning)
        return self._go_over_to(row)

    def sheet(self):
        """The sheet that comes of all deeds that stand."""
        return _sheet_behind(self.row)

    def deeds(self):
        """All deeds: (k, deed, word), the word telling whether it stands or is back."""
        standing = [step[0] for step in self.row]
        return [(k, deed, "stands" if k in standing else "back") for k, deed in enumerate(self.told, start=1)]

    def keep(self, name):
        """Keeps by a name which deeds stand."""
        if not is_name(name):
            raise NoName("it is no name")
        if name in self.versions():
            raise Taken("a version has this name")
        if len(self.kept) == MOST_VERSIONS:
            raise Full("as many versions are kept as may be")
        self.kept.append((name, list(self.row)))

    def go(self, name):
        """Lets just those deeds stand that a version keeps, and tells what became otherwise."""
        return self._go_over_to(list(self._version(name)))

    def drop(self, name):
        """Lets a version go."""
        self._version(name)
        self.kept = [version for version in self.kept if version[0] != name]

    def versions(self):
        """The names of the versions, in the order in which they were kept."""
        return [version[0] for version in self.kept]

    def between(self, name, second):
        """What became otherwise from one version's sheet to another one's."""
        row = self._version(name)
        return changes_between(_sheet_behind(row), _sheet_behind(self._version(second)))

    def standing_in(self, name):
        """The numbers of the deeds that stand in a version."""
        return [step[0] for step in self._version(name)]

    def _place_of(self, k):
        """Where in the row the standing deed of this number is."""
        if is_whole_within(k, 1, len(self.told)):
            for at, step in enumerate(self.row):
                if step[0] == k:
                    return at
        raise NoNumber("no deed that stands has this number")

    def _version(self, name):
        """The row of the version of this name."""
        for version, row in self.kept:
            if version == name:
                return row
        raise NoVersion("no version has this name")

    def _without(self, at):
        """The row without one deed and those that lean on it, and the numbers of those."""
        return self._gone_on(self.row[:at], self.row[at + 1:])

    def _gone_on(self, row, steps):
        """The row gone on with those of the steps that go as they did, and the numbers of the others."""
        left_out = []
        for k, _, changes in steps:
            try:
                step = _step_of(k, self.told[k - 1], _sheet_behind(row))
            except LaneError:
                left_out.append(k)
                continue
            if step[2] == changes:
                row.append(step)
            else:
                left_out.append(k)
        return row, left_out

    def _go_over_to(self, row):
        ahead = self.sheet()
        self.row = row
        return changes_between(ahead, self.sheet())


def board_of(deeds, standing, versions):
    """The board of deeds, of which those of some numbers stand, and versions (name, numbers).

    It is refused where those that stand, or those of a version, are not all let by.
    """
    board = Board()
    board.told = list(deeds)
    board.row = _row_of(deeds, standing)
    board.kept = [(name, _row_of(deeds, numbers)) for name, numbers in versions]
    return board


def _row_of(deeds, numbers):
    row = []
    for k in numbers:
        row.append(_step_of(k, deeds[k - 1], _sheet_behind(row)))
    return row


def _step_of(k, deed, ahead):
    """What a row tells of the deed of this number, done on a sheet."""
    behind = behind_deed(ahead, NUMBERS_EACH * k, deed)
    return (k, behind, changes_between(ahead, behind))


def _sheet_behind(row):
    return row[-1][1] if row else EMPTY
