"""Deeds' texts: a deed written as its word and its things, and read again."""

from beatlanes.deeds import KINDS
from beatlanes.errors import NoText
from beatlanes.texts import read_words, show_words


def show_deed(deed):
    """The text of a deed."""
    return show_words(KINDS[deed[0]], deed)


def read_deed(text):
    """The deed of which the text is so written, whether or not it could be done."""
    if not isinstance(text, str):
        raise NoText(0)
    words = text.split(" ")
    if words[0] not in KINDS:
        raise NoText(0)
    return (words[0],) + read_words(KINDS[words[0]], words[1:])
