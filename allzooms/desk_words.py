"""The words of lines of a desk.

A form tells the words behind the first one of a line: NAME is a name that is told; drawn, claim, page and
style are names of such things, worth is the name of something drawn or of a claim, thing that of anything.
"""

from allzooms.errors import BadLine, BadText
from allzooms.page_words import is_name
from allzooms.part_words import read_part
from allzooms.ratios import told_number
from allzooms.rounding_words import take_rounding
from allzooms.words import Words

FORMS = {
    "drawn": ("NAME", "DRAWN"),
    "claim": ("NAME", "CLAIM"),
    "page": ("NAME", "PAGE"),
    "style": ("NAME", "STYLE"),
    "side": ("NAME", "page", "style", "NAME", "SIDE"),
    "most": ("NAME", "drawn", "drawn"),
    "below": ("NAME", "drawn", "drawn"),
    "equal": ("NAME", "drawn", "drawn"),
    "and": ("NAME", "claim", "claim"),
    "or": ("NAME", "claim", "claim"),
    "not": ("NAME", "claim"),
    "sum": ("NAME", "drawn", "N", "drawn"),
    "forget": ("thing",),
    "at": ("worth", "RATIO", "RATIO"),
    "pixels": ("page", "style", "RATIO", "RATIO"),
    "judge": ("claim",),
    "share": ("claim",),
    "zooms": ("claim", "WHERE"),
    "greatest": ("drawn",),
    "least": ("drawn",),
    "alike": ("page", "style", "style"),
    "row": ("ROUNDING", "N"),
    "seen": ("PAIRS",),
    "show": ("thing",),
    "undo": (),
}
KINDS = ("drawn", "claim", "page", "style", "worth", "thing")


def read_line(line):
    """The first word of a line, and pairs (symbol, what is told there) for those of its form."""
    if not isinstance(line, str):
        raise BadLine(0)
    words = line.split(" ")
    if words[0] not in FORMS:
        raise BadLine(0)
    reader = Words(words, 1)
    try:
        parts = [(symbol, take_part(reader, symbol)) for symbol in FORMS[words[0]]]
        reader.finish()
    except BadText as error:
        raise BadLine(error.word) from None
    return words[0], parts


def take_part(reader, symbol):
    """Goes on behind what must stand here for a symbol, and returns what is told."""
    if symbol == "NAME" or symbol in KINDS:
        return take_name(reader)
    if symbol == "N":
        return reader.integer()
    if symbol == "SIDE":
        return take_one_of(reader, ("left", "right"))
    if symbol == "ROUNDING":
        return take_rounding(reader)
    if symbol == "RATIO":
        return take_ratio(reader)
    if symbol == "WHERE":
        is_word = reader.ahead() in ("every", "some")
        return take_one_of(reader, ("every", "some")) if is_word else take_ratio(reader)
    if symbol == "PAIRS":
        return take_pairs(reader)
    return take_text(reader, symbol)


def take_name(reader):
    """Goes on behind a name of a thing."""
    name = reader.ahead()
    if not is_name(name):
        reader.refuse()
    reader.take(name)
    return name


def take_one_of(reader, words):
    """Goes on behind one of some words."""
    word = reader.ahead()
    if word not in words:
        reader.refuse()
    reader.take(word)
    return word


def take_ratio(reader):
    """Goes on behind a number."""
    number = told_number(reader.ahead())
    if number is None:
        reader.refuse()
    reader.take(reader.ahead())
    return number


def take_pairs(reader):
    """Goes on behind pairs of integers, one pair at least, up to the end."""
    pairs = []
    while not pairs or reader.is_more():
        unit = reader.integer()
        pairs.append((unit, reader.integer()))
    return pairs


def take_text(reader, symbol):
    """Goes on behind a text that takes all words up to the end."""
    thing = read_part(symbol, reader.words, reader.at)
    reader.at = len(reader.words)
    return thing
