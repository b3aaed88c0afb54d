"""The words of ways and styles, read into rows."""

from allzooms.page_words import is_name
from allzooms.rounding_words import take_rounding
from allzooms.words import Words, whole_number

ROUNDINGS = {"edges": 2, "within": 1, "carried": 1, "row": 1}


class WayRow:
    """What is read of a way: its least pixels from the outside inwards, its kind, its roundings."""

    def __init__(self, leasts, kind, roundings):
        self.leasts = leasts
        self.kind = kind
        self.roundings = roundings


def take_way(reader):
    """Goes on behind a way that must stand here, and returns its row."""
    leasts = []
    while reader.ahead() == "least":
        reader.take("least")
        number = whole_number(reader.ahead())
        if number is None or number < 1:
            reader.refuse()
        leasts.append(reader.integer())
    kind = reader.ahead()
    if kind not in ROUNDINGS:
        reader.refuse()
    reader.take(kind)
    return WayRow(leasts, kind, [take_rounding(reader) for _ in range(ROUNDINGS[kind])])


def way_row(words):
    """The row of the way whose text these words are."""
    reader = Words(words, 0)
    row = take_way(reader)
    reader.finish()
    return row


def style_rows(words, at):
    """The row of the way for all others, and pairs of a name and a row, of a style from a word on."""
    reader = Words(words, at)
    row = take_way(reader)
    named = []
    while reader.ahead() == ";":
        reader.take(";")
        name = reader.ahead()
        if not is_name(name):
            reader.refuse()
        reader.take(name)
        named.append((name, take_way(reader)))
    reader.finish()
    return row, named
