import unittest
from fractions import Fraction
from random import Random

from beatlanes.deeds import done
from beatlanes.deedtexts import read_deed, show_deed
from beatlanes.errors import NoText
from beatlanes.sheets import is_shape, is_take
from tests.makings import flat, shape_of, some_deed, some_sheets
from tests.test_deeds import DEEDS, WORDS
from tests.things import ANYTHING, is_plainly_told, refusal_of, told, unchanged
from tests.writing import FRACTION, LANE, NAME, NO_FRACTION_WORDS, NO_WHOLE_WORDS, SHAPE, SIDE, TONES, WAY, WHOLE
from tests.writing import fraction_of, is_written, shape_of_word, spoilt_texts

GREAT = 10 ** 3999 - 7
PATTERNS = {
    "take": [NAME, TONES], "untake": [NAME], "lane": [NAME], "unlane": [NAME], "gain": [NAME, FRACTION], "hush": [NAME, WHOLE],
    "order": [NAME, WHOLE], "lay": [NAME, NAME, WHOLE, WHOLE, WAY, FRACTION, FRACTION, SHAPE], "lift": [WHOLE],
    "move": [WHOLE, WHOLE], "shift": [WHOLE, NAME], "raise": [WHOLE, WHOLE], "trim": [WHOLE, WHOLE, WHOLE], "cut": [WHOLE, WHOLE],
    "glue": [WHOLE, WHOLE], "stretch": [WHOLE, WHOLE], "turn": [WHOLE], "fade": [WHOLE, SIDE, FRACTION], "louder": [WHOLE, FRACTION],
    "pace": [WHOLE, WHOLE, FRACTION, FRACTION], "rest": [WHOLE, FRACTION], "out": [LANE, WHOLE, WHOLE], "gap": [LANE, WHOLE, WHOLE],
}
# Of each pattern: things that may stand there, whether or not the deed could be done, and how they are written.
THINGS = {
    NAME: [("a", "a"), ("abcdefgh", "abcdefgh"), ("take", "take")],
    LANE: [("a", "a"), ("abcdefgh", "abcdefgh"), (None, "-")],
    WHOLE: [(0, "0"), (1, "1"), (-1, "-1"), (100001, "100001"), (GREAT, str(GREAT)), (-GREAT, str(-GREAT))],
    FRACTION: [((0, 1), "0"), ((5, 1), "5"), ((-5, 1), "-5"), ((1, 3), "1/3"), ((-7, 2), "-7/2"), ((GREAT, 2), f"{GREAT}/2"),
               ((-2, GREAT), f"-2/{GREAT}")],
    TONES: [((0,), "0"), ((-100000, 100000, 7), "-100000,100000,7"), ((1,) * 200, ",".join("1" * 200))],
    SHAPE: [(flat(4), "0:1,4:1"), (shape_of((3, 0), (Fraction(7, 2), 5)), "3:0,7/2:5"),
            (shape_of(*[(k, k * k) for k in range(12)]), ",".join(f"{k}:{k * k}" for k in range(12))),
            (shape_of((0, 1), (GREAT, 2)), f"0:1,{GREAT}:2")],
    WAY: [("free", "free"), ("bound", "bound")],
    SIDE: [("in", "in"), ("out", "out")],
}


def thing_of(pattern, word):
    if pattern == LANE and word == "-":
        return None
    if pattern == WHOLE:
        return int(word)
    if pattern == FRACTION:
        return fraction_of(word)
    if pattern == TONES:
        return tuple(int(part) for part in word.split(","))
    return shape_of_word(word) if pattern == SHAPE else word


def told_by_patterns(text):
    """The deed of a text, None where it is none."""
    word, *words = text.split(" ")
    patterns = PATTERNS.get(word, [])
    if not patterns or len(words) != len(patterns) or not all(map(is_written, patterns, words)):
        return None
    things = tuple(map(thing_of, patterns, words))
    for pattern, thing in zip(patterns, things):
        if pattern == TONES and not is_take(("a", thing)) or pattern == SHAPE and not is_shape(thing):
            return None
    return (word,) + things


def rows_refused(ask, text):
    try:
        return ask(text)
    except NoText as refusal:
        assert refusal.__class__ is NoText and refusal.row == 0
        return None


class ThereAndBack(unittest.TestCase):
    def there_and_back(self, deed, text):
        self.assertEqual(show_deed(deed), text)
        self.assertEqual(read_deed(text), deed)
        self.assertTrue(is_plainly_told(read_deed(text)))
        self.assertTrue(unchanged(show_deed, deed))

    def test_each_word(self):
        self.assertEqual(sorted(PATTERNS), sorted(WORDS))
        for word, patterns in PATTERNS.items():
            for k in range(7):
                pairs = [THINGS[pattern][(k + 3 * j) % len(THINGS[pattern])] for j, pattern in enumerate(patterns)]
                self.there_and_back((word,) + tuple(pair[0] for pair in pairs), " ".join([word] + [pair[1] for pair in pairs]))

    def test_each_thing_of_each_word(self):
        for word, patterns in PATTERNS.items():
            for j, pattern in enumerate(patterns):
                for thing in THINGS[pattern]:
                    pairs = [thing if k == j else THINGS[other][0] for k, other in enumerate(patterns)]
                    self.there_and_back((word,) + tuple(pair[0] for pair in pairs), " ".join([word] + [pair[1] for pair in pairs]))

    def test_as_they_are_written(self):
        for text, deed in [
                ("take a 5,-7,3", ("take", "a", (5, -7, 3))), ("lay b a 0 6 free 1/2 1 0:1,5/2:0,6:1",
                ("lay", "b", "a", 0, 6, "free", (1, 2), (1, 1), shape_of((0, 1), (Fraction(5, 2), 0), (6, 1)))),
                ("fade 3 out 7/2", ("fade", 3, "out", (7, 2))), ("out - 3 4", ("out", None, 3, 4)), ("gap x 3 4", ("gap", "x", 3, 4)),
                ("move 300 -2", ("move", 300, -2)), ("pace 0 4 1 3/2", ("pace", 0, 4, (1, 1), (3, 2))), ("turn 0", ("turn", 0)),
                ("hush take 1", ("hush", "take", 1)), ("raise 1 0", ("raise", 1, 0))]:
            self.there_and_back(deed, text)

    def test_deeds_that_go_and_that_are_refused(self):
        for deed, _, refused in DEEDS:
            self.assertEqual(read_deed(show_deed(deed)), deed)
        r = Random(38)
        refused = 0
        for made in some_sheets(40, 6000):
            for _ in range(20):
                deed = some_deed(r, made)
                refused += refusal_of(done, made, 1, deed) is not None
                self.assertEqual(read_deed(show_deed(deed)), deed)
        self.assertGreater(refused, 100)

    def test_many_figures(self):
        great = told(Fraction(10 ** 3998 + 1, 3 ** 8000))
        deed = ("pace", GREAT, -GREAT, great, (-great[0], great[1]))
        self.assertEqual(read_deed(show_deed(deed)), deed)


class NoDeedText(unittest.TestCase):
    def assert_none(self, text):
        self.assertIsNone(rows_refused(read_deed, text), text)
        if isinstance(text, str):
            self.assertIsNone(told_by_patterns(text), text)

    def test_what_is_no_text(self):
        for thing in [thing for thing in ANYTHING if not isinstance(thing, str)] + [b"lift 7", ["lift 7"], ("lift", 7), ["lift", "7"]]:
            self.assert_none(thing)

    def test_words_that_are_none(self):
        for text in ["", " ", "-", "lifts 7", "Lift 7", "LIFT 7", "lift", "7", "undo 1", "tempo 1", "piece 1", "stands lift 7", "\n",
                     "lift\n7", "lift 7\n", "\nlift 7", "lift 7\nlift 7", " lift 7", "lift 7 ", "lift  7", "lift\t7", "lift,7", "lift7"]:
            self.assert_none(text)

    def test_words_more_fewer_and_other_ones(self):
        for word, patterns in PATTERNS.items():
            words = [word] + [THINGS[pattern][0][1] for pattern in patterns]
            self.assertIsNotNone(rows_refused(read_deed, " ".join(words)))
            for k in range(len(words) + 1):
                for more in ("", "1", "a", "-"):
                    self.assert_none(" ".join(words[:k] + [more] + words[k:]))
            for k in range(len(words)):
                self.assert_none(" ".join(words[:k] + words[k + 1:]))
            for k, pattern in enumerate(patterns, start=1):
                others = {WHOLE: NO_WHOLE_WORDS + ["1/2"], FRACTION: NO_FRACTION_WORDS, NAME: ["", "-", "A", "a1", "abcdefghi", "a-", "1"],
                          LANE: ["", "--", "A", "a1", "abcdefghi", "-a", "None"], WAY: ["", "-", "Free", "fre", "in", "freebound"],
                          SIDE: ["", "-", "In", "free", "ins", "inout", "1"],
                          TONES: NO_WHOLE_WORDS + ["", "1,", ",1", "1,,1", "100001", "1,-100001", "1/2", ",".join("1" * 201)],
                          SHAPE: ["", "-", "0:1", "0:1,", "0:1,0:2", "1:1,0:1", "0:1,1:1,2:1", "0:-1,1:1", "-1:1,0:1", "0:1,2/4:1",
                                  "0:1,1", ",".join(f"{k}:{k * k}" for k in range(13))]}[pattern]
                for other in others:
                    self.assert_none(" ".join(words[:k] + [other] + words[k + 1:]))

    def test_lane_may_be_none_of_out_and_gap_alone(self):
        for text in ["lane -", "unlane -", "gain - 1", "hush - 1", "order - 0", "lay - a 0 4 free 0 1 0:1,4:1", "shift 7 -",
                     "lay a - 0 4 free 0 1 0:1,4:1", "take - 1", "untake -", "lift -", "fade 7 - 1"]:
            self.assert_none(text)

    def test_a_sign_otherwise(self):
        r = Random(39)
        for made in some_sheets(30, 6100):
            for _ in range(6):
                text = show_deed(some_deed(r, made))
                for other in spoilt_texts(r, text, 60):
                    found = rows_refused(read_deed, other)
                    self.assertEqual(found, told_by_patterns(other), other)
                    if found is not None:
                        self.assertEqual(show_deed(found), other)


if __name__ == "__main__":
    unittest.main()
