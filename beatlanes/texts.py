"""Texts: how things are written and read, word by word, and a sheet row by row."""

from beatlanes.errors import NoText
from beatlanes.fracs import is_above_nought, is_fraction
from beatlanes.sheets import WAYS, fault_of, is_lane_frame, is_name, is_piece, is_shape, is_take, is_tones
from beatlanes.shaping import SIDES
from beatlanes.spots import refuse_no_sheet
from beatlanes.tempo import is_stretch

# Of each row's word, of what kinds the things behind it are.
ROWS = {
    "tempo": ("fraction",),
    "stretch": ("whole", "fraction", "fraction"),
    "take": ("name", "tones"),
    "lane": ("name", "fraction", "whole"),
    "piece": ("whole", "name", "whole", "whole", "way", "fraction", "fraction", "shape"),
}
# Of each row's word, behind which rows it may come; the first row comes behind none.
BEHIND = {
    "tempo": ("",),
    "stretch": ("tempo", "stretch"),
    "take": ("tempo", "stretch", "take"),
    "lane": ("tempo", "stretch", "take", "lane", "piece"),
    "piece": ("lane", "piece"),
}


def show_sheet(sheet):
    """The text of a sheet."""
    refuse_no_sheet(sheet)
    (stretches, rest), takes, lanes = sheet
    rows = [("tempo", rest)] + [("stretch",) + stretch for stretch in stretches] + [("take",) + take for take in takes]
    for lane in lanes:
        rows.append(("lane",) + lane[:3])
        rows += [("piece",) + piece for piece in lane[3]]
    return "\n".join([show_words(ROWS[row[0]], row) for row in rows])


def read_sheet(text):
    """The sheet of which the text is so written."""
    rows = rows_of(text)
    told = []
    word = ""
    for k, row in enumerate(rows):
        words = row.split(" ")
        if word not in BEHIND.get(words[0], ()):
            raise NoText(k)
        word = words[0]
        try:
            things = read_words(ROWS[word], words[1:])
        except NoText:
            raise NoText(k) from None
        if not _is_by_itself(word, things):
            raise NoText(k)
        told.append((word, things))
    sheet = _sheet_of(told)
    if fault_of(sheet) is not None:
        raise NoText(len(rows))
    return sheet


def rows_of(text):
    """The rows of a text, one line end between each two; NoText, row 0, of what is no text."""
    if not isinstance(text, str):
        raise NoText(0)
    return text.split("\n")


def show_words(kinds, row):
    """A word, and behind it how things of these kinds are written."""
    return " ".join([row[0]] + [show_thing(kind, thing) for kind, thing in zip(kinds, row[1:])])


def read_words(kinds, words):
    """The things of these kinds that are so written, one by each word; NoText, row 0, of other words."""
    if len(words) != len(kinds):
        raise NoText(0)
    return tuple([read_thing(kind, word) for kind, word in zip(kinds, words)])


def show_thing(kind, thing):
    """How a thing of a kind is written."""
    if thing is None:
        return "-"
    if kind == "whole":
        return str(thing)
    if kind == "fraction":
        return show_fraction(thing)
    if kind == "tones":
        return show_wholes(thing)
    if kind == "shape":
        return ",".join([f"{show_fraction(place)}:{show_fraction(level)}" for place, level in thing])
    return thing


def show_fraction(one):
    """How a fraction is written."""
    top, bottom = one
    return str(top) if bottom == 1 else f"{top}/{bottom}"


def show_wholes(numbers):
    """How several whole numbers are written as one word."""
    return ",".join([str(number) for number in numbers])


def read_whole(word):
    """The whole number that is so written, None of another word."""
    figures = word[1:] if word.startswith("-") else word
    if not figures.isascii() or not figures.isdigit():
        return None
    # By this a nought has no sign, and no number has noughts ahead.
    if figures.startswith("0") and word != "0":
        return None
    return int(word)


def read_fraction(word):
    """The fraction that is so written, None of another word."""
    top, slash, bottom = word.partition("/")
    if slash == "":
        bottom = "1"
    elif bottom == "1":
        return None
    one = (read_whole(top), read_whole(bottom))
    return one if is_fraction(one) else None


def read_wholes(word):
    """The whole numbers that are written as one word; None stands for each that is not so written."""
    return tuple([read_whole(part) for part in word.split(",")])


def read_tones(word):
    """The tones that are so written, None of another word."""
    tones = read_wholes(word)
    return tones if is_tones(tones) else None


def read_shape(word):
    """The shape that is so written, None of another word."""
    corners = []
    for part in word.split(","):
        place, _, level = part.partition(":")
        corners.append((read_fraction(place), read_fraction(level)))
    shape = tuple(corners)
    return shape if is_shape(shape) else None


def read_name(word):
    """The name that is so written, None of another word."""
    return word if is_name(word) else None


def read_way(word):
    """The way of a piece that is so written, None of another word."""
    return word if word in WAYS else None


def read_side(word):
    """The side of a piece that is so written, None of another word."""
    return word if word in SIDES else None


READERS = {
    "whole": read_whole,
    "fraction": read_fraction,
    "tones": read_tones,
    "shape": read_shape,
    "name": read_name,
    "way": read_way,
    "side": read_side,
}


def read_thing(kind, word):
    """The thing of a kind that is so written; NoText, row 0, of another word."""
    if kind == "word":
        return word
    if kind == "lane":
        if word == "-":
            return None
        kind = "name"
    read = READERS[kind]
    thing = read(word)
    if thing is None:
        raise NoText(0)
    return thing


def _is_by_itself(word, things):
    """Whether the things of a row are, by themselves, what they are to be."""
    if word == "tempo":
        return is_above_nought(things[0])
    if word == "stretch":
        return is_stretch(things)
    if word == "take":
        return is_take(things)
    if word == "lane":
        return is_lane_frame(things + ((),))
    return is_piece(things)


def _sheet_of(told):
    """What the rows (word, things) make, a sheet or none."""
    stretches = tuple([things for word, things in told if word == "stretch"])
    takes = tuple([things for word, things in told if word == "take"])
    lanes = []
    for word, things in told:
        if word == "lane":
            lanes.append(things + ((),))
        if word == "piece":
            lane = lanes.pop()
            lanes.append(lane[:3] + (lane[3] + (things,),))
    return ((stretches, told[0][1][0]), takes, tuple(lanes))
