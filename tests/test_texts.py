import re
import unittest
from fractions import Fraction
from random import Random

from beatlanes.errors import NoSheet, NoText
from beatlanes.sheets import fault_of, is_piece, is_take
from beatlanes.tempo import is_stretch
from beatlanes.texts import read_sheet, show_sheet
from tests.makings import flat, lane, piece, shape_of, sheet, some_sheets, tempo_of
from tests.test_laying import assert_no_sheets_first, assert_sheet
from tests.test_paces import jumps
from tests.things import ANYTHING, told, unchanged
from tests.writing import FRACTION, NAME, NO_FRACTION_WORDS, NO_WHOLE_WORDS, SHAPE, TONES, WAY, WHOLE
from tests.writing import fraction_of, is_written, shape_of_word, spoilt_rows, spoilt_texts

HALF = Fraction(1, 2)
SHEET = sheet(lane("b", piece(30, "b", at=1, way="free", start=HALF, speed=Fraction(7, 3), shape=shape_of((0, 0), (HALF, 2), (4, 1)))),
              lane("low", gain=Fraction(3, 2), silent=1), lane("a", piece(7, many=1), piece(5, "c", at=99996)),
              tempo=tempo_of(Fraction(5, 3), (4, 1, 3), (3, HALF, 1)))
TEXT = """tempo 5/3
stretch 4 1 3
stretch 3 1/2 1
take a 5,-7,3
take b 100,0,-20,40
take c 1
lane b 1 0
piece 30 b 1 4 free 1/2 7/3 0:0,1/2:2,4:1
lane low 3/2 1
lane a 1 0
piece 7 a 0 1 bound 0 1 0:1,1:1
piece 5 c 99996 4 bound 0 1 0:1,4:1"""
ROWS = TEXT.split("\n")
PATTERNS = {"tempo": [FRACTION], "stretch": [WHOLE, FRACTION, FRACTION], "take": [NAME, TONES], "lane": [NAME, FRACTION, WHOLE],
            "piece": [WHOLE, NAME, WHOLE, WHOLE, WAY, FRACTION, FRACTION, SHAPE]}
AHEAD = {"tempo": [], "stretch": ["tempo", "stretch"], "take": ["tempo", "stretch", "take"],
         "lane": ["tempo", "stretch", "take", "lane", "piece"], "piece": ["lane", "piece"]}


def thing_of(pattern, word):
    if pattern in (FRACTION, WHOLE):
        return fraction_of(word) if pattern == FRACTION else int(word)
    if pattern == TONES:
        return tuple(int(part) for part in word.split(","))
    return shape_of_word(word) if pattern == SHAPE else word


def things_of(row):
    """The things of a row that is one by itself, else None."""
    word, *words = row.split(" ")
    patterns = PATTERNS.get(word, [])
    if not patterns or len(patterns) != len(words) or not all(map(is_written, patterns, words)):
        return None
    things = tuple(map(thing_of, patterns, words))
    right = {"tempo": things[0] > (0, 1) if word == "tempo" else None, "stretch": is_stretch(things), "take": is_take(things),
             "lane": word == "lane" and things[1][0] >= 0 and things[2] in (0, 1), "piece": is_piece(things)}[word]
    return things if right else None


def told_by_patterns(text):
    """The sheet of a text, or the number of the row as which it is refused."""
    rows = text.split("\n")
    read = [(row.split(" ")[0], things_of(row)) for row in rows]
    for k, (word, things) in enumerate(read):
        if things is None or (word != "tempo" if k == 0 else read[k - 1][0] not in AHEAD[word]):
            return k
    lanes = [[things, []] for word, things in read if word == "lane"]
    at = -1
    for word, things in read:
        if word == "lane":
            at += 1
        if word == "piece":
            lanes[at][1].append(things)
    made = ((tuple(things for word, things in read if word == "stretch"), read[0][1][0]),
            tuple(things for word, things in read if word == "take"),
            tuple(things + (tuple(pieces),) for things, pieces in lanes))
    return len(rows) if fault_of(made) is not None else made


def row_refused(text):
    """The row as which the text is refused; the sheet that is read of it, where it is not."""
    try:
        return read_sheet(text)
    except NoText as refusal:
        assert refusal.__class__ is NoText
        return refusal.row


class Show(unittest.TestCase):
    def test_row_by_row(self):
        self.assertEqual(show_sheet(SHEET), TEXT)
        self.assertEqual(show_sheet(sheet()), "tempo 1\ntake a 5,-7,3\ntake b 100,0,-20,40\ntake c 1")
        self.assertEqual(show_sheet((((), (1, 1)), (), ())), "tempo 1")
        self.assertEqual(show_sheet((((), (1, 2)), (), (lane("x"), lane("a")))), "tempo 1/2\nlane x 1 0\nlane a 1 0")
        self.assertTrue(unchanged(show_sheet, SHEET))

    def test_no_sheet(self):
        assert_no_sheets_first(self, show_sheet)
        with self.assertRaises(NoSheet):
            show_sheet(TEXT)


class ThereAndBack(unittest.TestCase):
    def there_and_back(self, made):
        text = show_sheet(made)
        self.assertEqual(read_sheet(text), made)
        assert_sheet(self, read_sheet(text))
        self.assertEqual(show_sheet(read_sheet(text)), text)
        self.assertFalse(text.endswith("\n"))
        return text

    def test_sheets_of_all_kinds(self):
        self.there_and_back(SHEET)
        self.there_and_back((((), (1, 1)), (), ()))
        for made in some_sheets(80, 5000):
            self.there_and_back(made)

    def test_sheets_at_all_limits(self):
        stretches = tuple((8333, (1 + k % 2, 1), (3 + k % 3, 7)) for k in range(24))
        takes = tuple(("abcdefgh"[k % 8] * (1 + k // 8), tuple([-100000, 100000] + [(7 * j) % 199 - 99 for j in range(198)]))
                      for k in range(12))
        shape = shape_of(*[(10 * j, Fraction((j * j) % 5 + 2 * (j % 2), 1 + j % 3)) for j in range(12)])
        lanes = tuple(("abcdefghijkl"[i] * 8, (3, 2), 0, tuple(
            (1 + i * 5 + j, takes[j][0], 99890 * (j % 2), 110, ("free", "bound")[j % 2], (1, 3), (2, 7), shape) for j in range(5)))
            for i in range(12))
        made = ((stretches, (5, 3)), takes, lanes)
        self.assertIsNone(fault_of(made))
        self.there_and_back(made)

    def test_fractions_of_many_figures(self):
        great = told(Fraction(10 ** 3999 + 1, 3 ** 5000))
        made = (((2, great, (1, 10 ** 3000)),), great)
        self.there_and_back((made, (), (("a", great, 1, ()),)))
        made = sheet(lane("a", piece(99999, start=10 ** 12 - 1, speed=Fraction(1, 10 ** 12 - 1), shape=flat(4, Fraction(*great)))))
        self.there_and_back(made)


class NoSheetText(unittest.TestCase):
    def assert_row(self, text, row):
        self.assertEqual(row_refused(text), row, text[:200])
        self.assertEqual(told_by_patterns(text), row)

    def with_row(self, k, row):
        return "\n".join(ROWS[:k] + [row] + ROWS[k + 1:])

    def test_what_is_no_text(self):
        for thing in [thing for thing in ANYTHING if not isinstance(thing, str)] + [[TEXT], (TEXT,), {TEXT: 1}, TEXT.encode()]:
            self.assertEqual(row_refused(thing), 0)

    def test_without_signs_and_line_ends(self):
        for text, row in [("", 0), ("\n", 0), (" ", 0), (TEXT + "\n", len(ROWS)), ("\n" + TEXT, 0), (TEXT + "\n\n", len(ROWS)),
                          (TEXT + " ", len(ROWS) - 1), (" " + TEXT, 0), ("tempo 1\n", 1), ("tempo 1\n\nlane a 1 0", 1)]:
            self.assert_row(text, row)

    def test_a_word_more_or_fewer_or_another_one(self):
        for k, row in enumerate(ROWS):
            words = row.split(" ")
            for j in range(len(words) + 1):
                for more in ("", "1", "a", "-", "0"):
                    self.assert_row(self.with_row(k, " ".join(words[:j] + [more] + words[j:])), k)
            for j in range(len(words)):
                self.assert_row(self.with_row(k, " ".join(words[:j] + words[j + 1:])), k)
                for other in ("", "-", "x y", "A", "None", "Tempo", "?", "abcdefghi", "1/1", "-0", "00", "0:", ":", ",", "1,"):
                    self.assert_row(self.with_row(k, " ".join(words[:j] + [other] + words[j + 1:])), k)
            for sign in "\t?;.":
                self.assert_row(self.with_row(k, row.replace(" ", sign)), k)
            self.assert_row(self.with_row(k, row.upper()), k)
            self.assert_row(self.with_row(k, row.replace(" ", "  ")), k)

    def test_words_that_are_no_numbers(self):
        for k, row in enumerate(ROWS):
            words = row.split(" ")
            for j, pattern in enumerate(PATTERNS[words[0]], start=1):
                for other in NO_WHOLE_WORDS if pattern == WHOLE else NO_FRACTION_WORDS if pattern == FRACTION else []:
                    self.assert_row(self.with_row(k, " ".join(words[:j] + [other] + words[j + 1:])), k)

    def test_tones_and_shapes(self):
        for word in NO_WHOLE_WORDS + ["1,,2", ",1", "1,", "1, 2", "1;2", "100001", "-100001", "1,100001", "1/2", ",".join("1" * 201)]:
            self.assert_row(self.with_row(3, "take a " + word), 3)
        self.assertIsInstance(row_refused(self.with_row(3, "take a " + ",".join("1" * 200))), tuple)
        self.assertIsInstance(row_refused(self.with_row(3, "take a 100000,-100000")), tuple)
        for word in ["0:1", "0:1,", ",0:1,4:1", "0:1,,4:1", "0:1;4:1", "0,1,4,1", "0:1:1,4:1", "0:1,4", "0,4:1", "0:-1,4:1", "0:1,3:1",
                     "0:1,5:1", "1:1,4:1", "0:1,2:1,4:1", "0:1,4:1,3:1", "0:1,4:1,4:2", "0:1,4:2/4", "0:01,4:1", "0:1,8/2:1",
                     "0:1,4/1:1", ":,:", "0:,4:", "0: 1,4:1", ",".join(f"{k}:{k * k}" for k in range(13))]:
            self.assert_row(self.with_row(11, "piece 5 c 9 4 bound 0 1 " + word), 11)

    def test_numbers_at_and_beyond_their_bounds(self):
        for k, good, bad in [
                (0, ["tempo 1/999999999999", "tempo " + "9" * 3999], ["tempo 0", "tempo -1", "tempo -5/3"]),
                (1, ["stretch 1 1 3", "stretch 199997 1 3", "stretch 4 1/999 3"],
                 ["stretch 0 1 3", "stretch -4 1 3", "stretch 200001 1 3", "stretch 4 0 3", "stretch 4 1 0", "stretch 4 1 -3",
                  "stretch 4/3 1 3"]),
                (8, ["lane low 0 1", "lane low 3/2 0", "lane abcdefgh 3/2 1"],
                 ["lane low -1 1", "lane low 3/2 2", "lane low 3/2 -1", "lane abcdefghi 3/2 1", "lane Low 3/2 1", "lane lo1 3/2 1"]),
                (11, ["piece 1 c 0 4 bound 0 1 0:1,4:1", "piece 99999 c 0 4 bound 0 1 0:1,4:1", "piece 5 c 99996 4 free 7/2 1/9 0:1,4:1",
                      "piece 5 c 0 100000 bound 0 1 0:0,100000:1", "piece 5 c 99999 1 bound 0 1 0:0,1:0"],
                 ["piece 0 c 0 4 bound 0 1 0:1,4:1", "piece 100000 c 0 4 bound 0 1 0:1,4:1", "piece 5 c 99997 4 bound 0 1 0:1,4:1",
                  "piece 5 c -1 4 bound 0 1 0:1,4:1", "piece 5 c 0 0 bound 0 1 0:1,0:1", "piece 5 c 0 4 bound -1 1 0:1,4:1",
                  "piece 5 c 0 4 bound 0 0 0:1,4:1", "piece 5 c 0 4 bounds 0 1 0:1,4:1", "piece 5 c 0 4 in 0 1 0:1,4:1"])]:
            for row in good:
                self.assertEqual(row_refused(self.with_row(k, row)), told_by_patterns(self.with_row(k, row)))
                assert_sheet(self, row_refused(self.with_row(k, row)))
            for row in bad:
                self.assert_row(self.with_row(k, row), k)

    def test_rows_that_may_not_come_where_they_are(self):
        for k in range(1, len(ROWS)):
            self.assert_row("\n".join(ROWS[k:]), 0)
            self.assert_row("\n".join(ROWS[:k] + ROWS[:1] + ROWS[k:]), k)
        for rows, row in [([0, 3, 1], 2), ([0, 1, 3, 2], 3), ([0, 6, 1], 2), ([0, 7, 1], 1), ([0, 6, 7, 1], 3), ([0, 6, 3], 2),
                          ([0, 6, 7, 3], 3), ([0, 7], 1), ([0, 1, 7], 2), ([0, 3, 10], 2), ([0, 1, 3, 7, 6], 3), ([1, 0], 0),
                          ([0, 0], 1), ([0, 3, 0], 2), ([6, 7], 0), ([7], 0), ([3, 0], 0)]:
            self.assert_row("\n".join([ROWS[k] for k in rows]), row)

    def test_the_first_such_row(self):
        for k in range(len(ROWS)):
            for j in range(k + 1, len(ROWS)):
                rows = list(ROWS)
                rows[k], rows[j] = rows[k] + " ", "tempo 1"
                self.assert_row("\n".join(rows), k)
                rows = list(ROWS)
                rows[k], rows[j] = ("tempo 1", "?") if k > 0 else ("take a 1", "?")
                self.assert_row("\n".join(rows), k)

    def test_the_count_of_rows_where_no_sheet_comes_of_them(self):
        def stretches(rows):
            return "tempo 9\n" + "\n".join([f"stretch {many} {first} {last}" for many, first, last in rows])
        for text in [
                stretches([(1, 1 + k % 2, 1 + k % 2) for k in range(25)]), stretches([(200000, 1, 2), (1, 5, 6)]),
                stretches([(100000, 1, 2), (100001, 5, 6)]), stretches([(2, 1, 2), (2, 2, 3)]), stretches([(2, 1, 1), (3, 1, 1)]),
                stretches([(2, 9, 9)]), stretches([(2, 1, 3), (7, 9, 9)]),
                "tempo 1\n" + "\n".join([f"take {name} 1" for name in "abcdefghijklm"]),
                "tempo 1\n" + "\n".join([f"lane {name} 1 0" for name in "abcdefghijklm"]),
                "tempo 1\ntake a 1\ntake a 1", "tempo 1\ntake a 1\ntake b 1\ntake a 2", "tempo 1\nlane a 1 0\nlane a 1 0",
                "tempo 1\nlane a 1 0\nlane b 1 0\nlane a 2 1", TEXT.replace("piece 5 c", "piece 5 d"),
                TEXT.replace("piece 5 c", "piece 7 c"), TEXT.replace("piece 5 c", "piece 30 c"), TEXT.replace("take c 1\n", ""),
                "tempo 1\ntake a 1\nlane a 1 0\n" + "\n".join([f"piece {n} a 0 4 free 0 1 0:1,4:1" for n in range(1, 62)])]:
            self.assert_row(text, text.count("\n") + 1)
        self.assertIsInstance(row_refused(stretches([(1, 1 + k % 2, 1 + k % 2) for k in range(24)])), tuple)
        self.assertEqual(row_refused(show_sheet(sheet(tempo=jumps(24)))), sheet(tempo=jumps(24)))
        # Where a row is none, what no sheet comes of is not told.
        self.assert_row("tempo 1\ntake a 1\ntake a 1\ntempo 1", 3)

    def test_a_sign_otherwise(self):
        r = Random(37)
        for made in [SHEET] + some_sheets(25, 5100):
            text = show_sheet(made)
            for other in list(spoilt_texts(r, text, 150)) + list(spoilt_rows(r, text, 40)):
                found = row_refused(other)
                self.assertEqual(found, told_by_patterns(other), other)
                if isinstance(found, tuple):
                    self.assertEqual(show_sheet(found), other)

    def test_each_thing_is_read_as_written(self):
        for row in ROWS:
            word, *words = row.split(" ")
            self.assertTrue(all(re.fullmatch(pattern, part) for pattern, part in zip(PATTERNS[word], words)))
        self.assertEqual(told_by_patterns(TEXT), SHEET)


if __name__ == "__main__":
    unittest.main()
