"""Parts of a row of words: what the words from a place to their end tell."""

from allzooms.drawn import Claim, Drawn
from allzooms.errors import BadText
from allzooms.pages import Page
from allzooms.ratios import Ratio, told_number
from allzooms.ways import Style


def told_part(symbol, text):
    """The thing of a kind that has a text."""
    if symbol == "DRAWN":
        return Drawn.read(text)
    if symbol == "CLAIM":
        return Claim.read(text)
    if symbol == "PAGE":
        return Page.read(text)
    if symbol == "STYLE":
        return Style.read(text)
    return Ratio.read(text)


def read_part(symbol, words, at):
    """The thing of a kind whose text stands in the words from a place to their end; refused by their indexes."""
    if symbol == "ZOOM" and is_no_zoom(words[at:]):
        raise BadText(0, at)
    try:
        return told_part(symbol, " ".join(words[at:]))
    except BadText as error:
        raise BadText(0, at + error.word) from None


def is_no_zoom(words):
    """Whether words begin with a number that is no zoom."""
    number = told_number(words[0]) if words else None
    return number is not None and number <= 0
