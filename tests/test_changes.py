import unittest
from fractions import Fraction
from itertools import product
from random import Random

from beatlanes.changes import changes
from beatlanes.deeds import done
from beatlanes.errors import NoSheet
from beatlanes.sheets import fault_of
from tests.makings import PLAIN, flat, lane, piece, shape_of, sheet, some_deed, some_sheets, some_tempo, tempo_of
from tests.makings import with_piece
from tests.reckoning import Reckoned
from tests.things import ANYTHING, assert_first_goes_first, assert_refused, is_plainly_told, lines_run, refusal_of
from tests.things import unchanged

SHEET = sheet(lane("b", piece(3, "b", at=1)), lane("a", piece(5), piece(7, at=5), piece(9, at=6)), lane("c", gain=0, silent=1))
FIELDS = ("n", "take", "at", "many", "way", "start", "speed", "shape")


def of_tempos(one, other):
    return changes(sheet(tempo=one), sheet(tempo=other))


def tempo_row(one, other):
    """The row of two tempos, step by step."""
    a, b = Reckoned(sheet(tempo=one)), Reckoned(sheet(tempo=other))
    many = max(len(a.lengths), len(b.lengths))
    steps = [step for step in range(many + 1) if a.length(step) != b.length(step)]
    if not steps:
        return []
    return [("tempo", steps[0], None if steps[-1] == many else steps[-1] + 1)]


def told_of(one, other):
    """The rows, thing by thing."""
    rows = tempo_row(one[0], other[0])
    for name in sorted({take[0] for take in one[1] + other[1]}):
        was, now = dict(one[1]).get(name), dict(other[1]).get(name)
        if was != now:
            rows.append(("take", name, was, now))
    lanes, others = ({row[0]: row for row in made[2]} for made in (one, other))
    for name in sorted(set(lanes) | set(others)):
        if (name in lanes) != (name in others):
            rows.append(("lane", name, "there", name in lanes, name in others))
            continue
        ranks = [[row[0] for row in made[2] if row[0] in lanes and row[0] in others].index(name) for made in (one, other)]
        for field, was, now in [("gain", lanes[name][1], others[name][1]), ("silent", lanes[name][2], others[name][2]),
                                ("rank", *ranks)]:
            if was != now:
                rows.append(("lane", name, field, was, now))
    pieces, new = ({part[0]: (row[0], part) for row in made[2] for part in row[3]} for made in (one, other))
    for n in sorted(set(pieces) | set(new)):
        if n not in pieces or n not in new:
            rows.append(("piece", n, "there", pieces.get(n), new.get(n)))
            continue
        if pieces[n][0] != new[n][0]:
            rows.append(("piece", n, "lane", pieces[n][0], new[n][0]))
        else:
            ranks = []
            for row in (lanes[pieces[n][0]], others[pieces[n][0]]):
                both = [part[0] for part in row[3] if pieces.get(part[0], [0])[0] == new.get(part[0], [1])[0]]
                ranks.append(both.index(n))
            if ranks[0] != ranks[1]:
                rows.append(("piece", n, "rank", *ranks))
        for k in range(1, 8):
            if pieces[n][1][k] != new[n][1][k]:
                rows.append(("piece", n, FIELDS[k], pieces[n][1][k], new[n][1][k]))
    return rows


def turned_about(rows):
    """The rows of takes, lanes and pieces the other way about."""
    return [row[:-2] + (row[-1], row[-2]) for row in rows]


class OfTempos(unittest.TestCase):
    def both_ways(self, one, other, rows):
        self.assertEqual(of_tempos(one, other), rows)
        self.assertEqual(of_tempos(other, one), rows)
        self.assertEqual(tempo_row(one, other), rows)

    def test_the_rest(self):
        self.both_ways(tempo_of(1), tempo_of(2), [("tempo", 0, None)])
        self.both_ways(tempo_of(1, (4, 1, 3)), tempo_of(2, (4, 1, 3)), [("tempo", 4, None)])
        self.both_ways(tempo_of(1, (4, 1, 3)), tempo_of(2, (3, 1, Fraction(5, 2))), [("tempo", 3, None)])
        self.both_ways(tempo_of(1, (4, 2, 2)), tempo_of(2), [("tempo", 4, None)])
        self.both_ways(tempo_of(1, (4, 2, 2), (2, 5, 5)), tempo_of(2, (4, 2, 2), (2, 5, 5)), [("tempo", 6, None)])

    def test_spans_with_rests_alike(self):
        self.both_ways(tempo_of(1), tempo_of(1, (4, 1, 3)), [("tempo", 0, 4)])
        self.both_ways(tempo_of(1), tempo_of(1, (3, 1, 1), (2, 2, 2)), [("tempo", 3, 5)])
        self.both_ways(tempo_of(1, (9, 2, 2)), tempo_of(1, (3, 2, 2), (2, 7, 7), (4, 2, 2)), [("tempo", 3, 5)])
        self.both_ways(tempo_of(1, (9, 2, 2)), tempo_of(1, (3, 2, 2), (1, 7, 7), (4, 2, 2), (1, 7, 7)), [("tempo", 3, 9)])
        self.both_ways(tempo_of(1, (9, 2, 2)), tempo_of(1, (5, 2, 2)), [("tempo", 5, 9)])

    def test_lines_that_cross_at_a_step(self):
        # The middle one of three steps, the first one, the last one: there both last alike.
        self.both_ways(tempo_of(1, (3, 1, 4)), tempo_of(1, (3, 4, 1)), [("tempo", 0, 3)])
        self.both_ways(tempo_of(1, (3, 1, 4)), tempo_of(1, (3, Fraction(3, 2), Fraction(3, 2))), [("tempo", 1, 3)])
        self.both_ways(tempo_of(1, (3, 1, 4)), tempo_of(1, (3, Fraction(7, 2), Fraction(7, 2))), [("tempo", 0, 2)])
        self.both_ways(tempo_of(1, (2, 1, 3)), tempo_of(1, (2, Fraction(3, 2), Fraction(3, 2))), [("tempo", 1, 2)])
        self.both_ways(tempo_of(1, (2, 1, 3)), tempo_of(1, (2, Fraction(5, 2), Fraction(5, 2))), [("tempo", 0, 1)])
        # Behind them the rests are unlike, or another stretch.
        self.both_ways(tempo_of(1, (3, 1, 4)), tempo_of(2, (3, Fraction(3, 2), Fraction(3, 2))), [("tempo", 1, None)])
        self.both_ways(tempo_of(1, (3, 1, 4), (2, 9, 9)), tempo_of(1, (3, Fraction(3, 2), Fraction(3, 2)), (2, 9, 9)),
                       [("tempo", 1, 3)])

    def test_stretches_that_last_alike_by_other_lines(self):
        # A single step lasts as long as the middle of its line tells.
        self.both_ways(tempo_of(9, (1, 1, 3)), tempo_of(9, (1, 2, 2)), [])
        self.both_ways(tempo_of(9, (1, 1, 3), (1, 2, 6)), tempo_of(9, (2, 1, 5)), [])
        self.both_ways(tempo_of(2, (1, 1, 3)), tempo_of(2), [])
        self.both_ways(tempo_of(2, (3, 5, 5), (1, 1, 3)), tempo_of(2, (3, 5, 5)), [])
        self.both_ways(tempo_of(9, (1, 1, 3), (1, 5, 5)), tempo_of(9, (1, 2, 2), (1, 6, 4)), [])

    def test_step_by_step(self):
        r = Random(32)
        for _ in range(600):
            one, other = some_tempo(r), some_tempo(r)
            if r.random() < 0.7:
                other = (other[0], one[1])
            if fault_of(sheet(tempo=one)) is None and fault_of((other, (), ())) is None:
                self.both_ways(one, other, tempo_row(one, other))

    def test_deeds_on_tempos_step_by_step(self):
        r = Random(33)
        for _ in range(300):
            made = sheet(tempo=some_tempo(r))
            for word in ("pace", "rest", "out", "gap"):
                deed = ()
                while deed[:1] != (word,) or (word in ("out", "gap") and deed[1] is not None):
                    deed = some_deed(r, made)
                found = done(made, 1, deed)
                self.both_ways(made[0], found[0], tempo_row(made[0], found[0]))

    def test_long_stretches_without_going_step_by_step(self):
        def asked(many):
            one = sheet(tempo=tempo_of(1, (many, 1, 3), (many, 7, 7)))
            other = sheet(tempo=tempo_of(1, (many, 1, 3), (many, 7, 8)))
            self.assertEqual(changes(one, other), [("tempo", many, 2 * many)])
            return lines_run(changes, one, other)
        self.assertLess(asked(100000), asked(10) + 5)
        one = tempo_of(1, (199999, 1, 3), (1, 7, 7))
        self.assertEqual(of_tempos(one, tempo_of(1, (199999, 1, 3), (1, 7, 8))), [("tempo", 199999, 200000)])
        self.assertEqual(of_tempos(one, tempo_of(1, (199999, 1, 3))), [("tempo", 199999, 200000)])
        self.assertEqual(of_tempos(one, PLAIN), [("tempo", 0, 200000)])


class OfTakes(unittest.TestCase):
    def test_there_and_not_there_and_other_tones(self):
        takes = (("b", (1, 2)), ("a", (3,)), ("d", (5,)))
        one = sheet(takes=takes)
        for other, rows in [((("b", (1, 2)), ("d", (5,))), [("take", "a", (3,), None)]),
                            (takes + (("c", (4, 4)),), [("take", "c", None, (4, 4))]),
                            ((("b", (2, 1)), ("a", (3,)), ("d", (5,))), [("take", "b", (1, 2), (2, 1))]),
                            ((("e", (3,)), ("a", (7,))), [("take", "a", (3,), (7,)), ("take", "b", (1, 2), None),
                                                          ("take", "d", (5,), None), ("take", "e", None, (3,))])]:
            self.assertEqual(changes(one, sheet(takes=other)), rows)
            self.assertEqual(changes(sheet(takes=other), one), turned_about(rows))

    def test_their_order_does_not_count(self):
        self.assertEqual(changes(SHEET, (SHEET[0], SHEET[1][::-1], SHEET[2])), [])
        self.assertNotEqual(SHEET, (SHEET[0], SHEET[1][::-1], SHEET[2]))

    def test_names_of_unlike_lengths(self):
        takes = tuple((name, (1,)) for name in ("b", "ab", "a", "aab", "ba", "zz", "z"))
        rows = [("take", name, None, (1,)) for name in ("a", "aab", "ab", "b", "ba", "z", "zz")]
        self.assertEqual(changes(sheet(takes=()), sheet(takes=takes)), rows)


class OfLanes(unittest.TestCase):
    def both_ways(self, one, other, rows):
        self.assertEqual(changes(one, other), rows)
        self.assertEqual(changes(other, one), turned_about(rows))

    def test_there_and_not_there(self):
        self.both_ways(sheet(lane("b")), sheet(lane("b"), lane("a")), [("lane", "a", "there", False, True)])
        self.both_ways(sheet(lane("b")), sheet(lane("a")), [("lane", "a", "there", False, True), ("lane", "b", "there", True, False)])
        row = changes(sheet(lane("b")), sheet())[0]
        self.assertIs(row[3], True)
        self.assertIs(row[4], False)

    def test_gain_silent_rank(self):
        one = sheet(lane("a"), lane("b"), lane("c"))
        self.both_ways(one, sheet(lane("a"), lane("b", gain=Fraction(1, 2)), lane("c")), [("lane", "b", "gain", (1, 1), (1, 2))])
        self.both_ways(one, sheet(lane("a", silent=1), lane("b"), lane("c")), [("lane", "a", "silent", 0, 1)])
        self.both_ways(one, sheet(lane("a"), lane("c"), lane("b")), [("lane", "b", "rank", 1, 2), ("lane", "c", "rank", 2, 1)])
        self.both_ways(one, sheet(lane("c", gain=2, silent=1), lane("a"), lane("b")),
                       [("lane", "a", "rank", 0, 1), ("lane", "b", "rank", 1, 2), ("lane", "c", "gain", (1, 1), (2, 1)),
                        ("lane", "c", "silent", 0, 1), ("lane", "c", "rank", 2, 0)])

    def test_ranks_among_the_lanes_that_both_have(self):
        one = sheet(lane("a"), lane("b"), lane("c"))
        self.both_ways(one, sheet(lane("b"), lane("c")), [("lane", "a", "there", True, False)])
        self.both_ways(one, sheet(lane("x"), lane("a"), lane("c"), lane("y"), lane("b")),
                       [("lane", "b", "rank", 1, 2), ("lane", "c", "rank", 2, 1), ("lane", "x", "there", False, True),
                        ("lane", "y", "there", False, True)])
        self.both_ways(sheet(lane("a"), lane("b"), lane("c"), lane("d")), sheet(lane("d"), lane("b")),
                       [("lane", "a", "there", True, False), ("lane", "b", "rank", 0, 1), ("lane", "c", "there", True, False),
                        ("lane", "d", "rank", 1, 0)])


class OfPieces(unittest.TestCase):
    def both_ways(self, one, other, rows):
        self.assertEqual(changes(one, other), rows)
        self.assertEqual(changes(other, one), turned_about(rows))

    def test_each_field(self):
        for field, was, now, other in [
                ("take", "a", "b", piece(7, "b", at=5)), ("at", 5, 6, piece(7, at=6)),
                ("way", "bound", "free", piece(7, at=5, way="free")), ("start", (0, 1), (1, 3), piece(7, at=5, start=Fraction(1, 3))),
                ("speed", (1, 1), (2, 1), piece(7, at=5, speed=2)), ("shape", flat(4), flat(4, 2), piece(7, at=5, shape=flat(4, 2)))]:
            self.both_ways(SHEET, with_piece(SHEET, other), [("piece", 7, field, was, now)])
        self.both_ways(SHEET, with_piece(SHEET, piece(7, at=5, many=3)),
                       [("piece", 7, "many", 4, 3), ("piece", 7, "shape", flat(4), flat(3))])
        other = piece(7, "c", 2, 3, "free", 4, 5, shape_of((0, 6), (3, 7)))
        self.both_ways(SHEET, with_piece(SHEET, other),
                       [("piece", 7, "take", "a", "c"), ("piece", 7, "at", 5, 2), ("piece", 7, "many", 4, 3),
                        ("piece", 7, "way", "bound", "free"), ("piece", 7, "start", (0, 1), (4, 1)),
                        ("piece", 7, "speed", (1, 1), (5, 1)), ("piece", 7, "shape", flat(4), shape_of((0, 6), (3, 7)))])

    def test_there_and_not_there(self):
        new = piece(4, "c", at=8)
        other = (SHEET[0], SHEET[1], SHEET[2][:2] + (lane("c", new, gain=0, silent=1),))
        self.both_ways(SHEET, other, [("piece", 4, "there", None, ("c", new))])
        self.both_ways(sheet(lane("a", piece(1))), sheet(lane("b", piece(2))),
                       [("lane", "a", "there", True, False), ("lane", "b", "there", False, True),
                        ("piece", 1, "there", ("a", piece(1)), None), ("piece", 2, "there", None, ("b", piece(2)))])

    def test_another_lane(self):
        one = sheet(lane("a", piece(1), piece(2), piece(3)), lane("b", piece(4)))
        # Its rank doesn't count; those of the others are their places among those that stay.
        self.both_ways(one, sheet(lane("a", piece(2), piece(3)), lane("b", piece(1), piece(4))), [("piece", 1, "lane", "a", "b")])
        self.both_ways(one, sheet(lane("a", piece(3), piece(2)), lane("b", piece(4), piece(1, "b"))),
                       [("piece", 1, "lane", "a", "b"), ("piece", 1, "take", "a", "b"), ("piece", 2, "rank", 0, 1),
                        ("piece", 3, "rank", 1, 0)])

    def test_ranks_among_those_that_lie_there_in_both(self):
        one = sheet(lane("a", piece(1), piece(2), piece(3)), lane("b", piece(4)))
        self.both_ways(one, sheet(lane("a", piece(3), piece(1), piece(2)), lane("b", piece(4))),
                       [("piece", 1, "rank", 0, 1), ("piece", 2, "rank", 1, 2), ("piece", 3, "rank", 2, 0)])
        self.both_ways(one, sheet(lane("a", piece(9), piece(3), piece(8), piece(1)), lane("b", piece(4))),
                       [("piece", 1, "rank", 0, 1), ("piece", 2, "there", ("a", piece(2)), None), ("piece", 3, "rank", 1, 0),
                        ("piece", 8, "there", None, ("a", piece(8))), ("piece", 9, "there", None, ("a", piece(9)))])
        # The lane itself may have another rank.
        self.both_ways(one, (one[0], one[1], one[2][::-1]), [("lane", "a", "rank", 0, 1), ("lane", "b", "rank", 1, 0)])

    def test_by_rising_numbers(self):
        one = sheet(lane("a"), lane("b"))
        other = sheet(lane("a", piece(30), piece(4), piece(200)), lane("b", piece(1000), piece(5)))
        self.assertEqual([row[1] for row in changes(one, other)], [4, 5, 30, 200, 1000])


class All(unittest.TestCase):
    def test_nothing_of_a_sheet_and_itself(self):
        for made in some_sheets(40, 4100):
            self.assertEqual(changes(made, made), [])
            self.assertEqual(changes(made, (made[0], made[1][::-1], made[2])), [])

    def test_order_of_the_rows(self):
        one = sheet(lane("z", piece(2)), lane("b"), takes=(("a", (1,)), ("z", (1,))))
        other = sheet(lane("b", piece(1), silent=1), lane("z", piece(3), gain=2), tempo=tempo_of(3),
                      takes=(("z", (2,)), ("a", (4,))))
        self.assertEqual([row[:3] for row in changes(one, other)], [
            ("tempo", 0, None), ("take", "a", (1,)), ("take", "z", (1,)), ("lane", "b", "silent"), ("lane", "b", "rank"),
            ("lane", "z", "gain"), ("lane", "z", "rank"), ("piece", 1, "there"), ("piece", 2, "there"), ("piece", 3, "there")])

    def test_thing_by_thing(self):
        r = Random(34)
        for made in some_sheets(120, 4200):
            other = made
            for new in range(1, r.randint(2, 12)):
                deed = some_deed(r, other)
                if refusal_of(done, other, new, deed) is None:
                    behind = done(other, new, deed)
                    self.assertEqual(changes(other, behind), told_of(other, behind))
                    other = behind
            self.assertEqual(changes(made, other), told_of(made, other))
            self.assertEqual(changes(other, made), told_of(other, made))

    def test_sheets_that_have_little_to_do_with_each_other(self):
        made = some_sheets(16, 4400)
        for one, other in product(made, made):
            self.assertEqual(changes(one, other), told_of(one, other))
            self.assertTrue(is_plainly_told([row for row in changes(one, other) if row[2] != "there"]))

    def test_refusals(self):
        assert_first_goes_first(self, changes, [SHEET, SHEET], [(NoSheet, {0: None}), (NoSheet, {1: SHEET[:2]})])
        for thing in ANYTHING + [SHEET[:2], list(SHEET), (SHEET[0], (), SHEET[2])]:
            assert_refused(self, NoSheet, changes, thing, SHEET)
            assert_refused(self, NoSheet, changes, SHEET, thing)
            assert_refused(self, NoSheet, changes, thing, thing)

    def test_lists_are_new_ones(self):
        other = with_piece(SHEET, piece(7, at=6))
        found = changes(SHEET, other)
        found.append(found[0])
        self.assertEqual(len(changes(SHEET, other)), 1)
        changes(SHEET, SHEET).append(1)
        self.assertEqual(changes(SHEET, SHEET), [])
        self.assertTrue(unchanged(changes, SHEET, other))


if __name__ == "__main__":
    unittest.main()
