"""How things are written, told once more by patterns, and texts that are spoilt at one place."""

import re
from fractions import Fraction
from math import gcd

WHOLE = r"(?:0|-?[1-9][0-9]*)"
FRACTION = rf"{WHOLE}(?:/(?:[2-9]|[1-9][0-9]+))?"
NAME = r"[a-z]{1,8}"
TONES = rf"{WHOLE}(?:,{WHOLE})*"
SHAPE = rf"{FRACTION}:{FRACTION}(?:,{FRACTION}:{FRACTION})*"
WAY = r"(?:free|bound)"
SIDE = r"(?:in|out)"
LANE = rf"(?:-|{NAME})"

# Words by which no whole number is written, whatever it is to be.
NO_WHOLE_WORDS = ["", "-", "+1", "01", "00", "-0", "-01", "1.0", "1e3", "0x1", "1_0", "1,", "one", "--1", "1-", "/", "1 ", " 1",
                  "a", "-a", "1:", "None", "True", "1a", "a1"]
NO_FRACTION_WORDS = [word for word in NO_WHOLE_WORDS] + ["1/1", "-1/1", "0/1", "0/2", "2/4", "6/3", "-6/4", "1/0", "1/-2", "-1/-2",
                                                         "1/02", "01/2", "-0/2", "1/", "/2", "1/2/3", "1//2", "1 /2", "1/ 2",
                                                         "1/a", "a/2", "+1/2", "1/+2", "1/1/1", "1.5/2"]


def is_written(pattern, word):
    """Whether a word is written by a pattern, its fractions in lowest terms."""
    if re.fullmatch(pattern, word) is None:
        return False
    parts = re.findall(r"(-?[0-9]+)/([0-9]+)", word)
    return all([gcd(int(top), int(bottom)) == 1 for top, bottom in parts])


def fraction_of(word):
    one = Fraction(word)
    return (one.numerator, one.denominator)


def shape_of_word(word):
    return tuple(tuple(fraction_of(part) for part in corner.split(":")) for corner in word.split(","))


def spoilt_texts(r, text, many, signs="0123456789-/,: \nabt"):
    """The text with one sign left out, put in or changed, so many times."""
    for _ in range(many):
        k = r.randint(0, len(text))
        kind = r.choice(["out", "in", "other", "twice"])
        if kind == "out":
            yield text[:k] + text[k + 1:]
        elif kind == "in":
            yield text[:k] + r.choice(signs) + text[k:]
        elif kind == "other":
            yield text[:k] + r.choice(signs) + text[k + 1:]
        else:
            yield text[:k] + text[k:k + 1] + text[k:]


def spoilt_rows(r, text, many):
    """The text with a row left out, told twice, or put elsewhere, so many times."""
    for _ in range(many):
        rows = text.split("\n")
        k, j = r.randrange(len(rows)), r.randrange(len(rows))
        kind = r.choice(["out", "twice", "elsewhere"])
        row = rows[k] if kind == "twice" else rows.pop(k)
        if kind != "out":
            rows.insert(j, row)
        yield "\n".join(rows)
