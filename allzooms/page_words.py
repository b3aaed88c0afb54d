"""The words of boxes, read into rows, and the names of boxes."""

from allzooms.errors import BadText, Taken
from allzooms.words import Words

MOST_LETTERS = 8


def is_name(value):
    """Whether any value is a name of a box."""
    if not isinstance(value, str) or len(value) > MOST_LETTERS:
        return False
    return value.isascii() and value.isalpha() and value.islower() and value not in ("self", "way")


def check_unlike(names):
    """Refuses the first one of names that was told before."""
    told = {}
    for name in names:
        if name in told:
            raise Taken(name)
        told[name] = True


class BoxRow:
    """What is read of a box: its name, offset and units, and the rows of the boxes within it."""

    def __init__(self, name, offset, units):
        self.name = name
        self.offset = offset
        self.units = units
        self.inner = []


def box_rows(words, at, is_page):
    """The rows of the outermost boxes whose text stands in the words from a place to their end.

    Nested boxes are kept in a list of their own, as texts may nest very deep.
    """
    reader = Words(words, at)
    outermost = []
    levels = [outermost]
    names = []
    while levels:
        row = box_row(reader)
        names.append(row.name)
        levels[-1].append(row)
        if reader.ahead() == "(":
            reader.take("(")
            levels.append(row.inner)
        else:
            close_levels(reader, levels, is_page)
    check_unlike(names)
    return outermost


def box_row(reader):
    """The row of a box, without what is within it."""
    name = reader.ahead()
    if not is_name(name):
        reader.refuse()
    reader.take(name)
    offset = reader.integer()
    if reader.ahead().startswith("-"):
        reader.refuse()
    return BoxRow(name, offset, reader.integer())


def close_levels(reader, levels, is_page):
    """Goes on behind a box: out of boxes around it, to the next box or to the end."""
    while len(levels) > 1 and reader.ahead() == ")":
        reader.take(")")
        levels.pop()
    if (len(levels) > 1 or is_page) and reader.ahead() == ";":
        reader.take(";")
    elif len(levels) > 1:
        reader.refuse()
    else:
        reader.finish()
        levels.pop()


def page_rows(words, at):
    """The rows of the outermost boxes of a page, likewise."""
    if at < len(words) and words[at] == "-":
        if at + 1 < len(words):
            raise BadText(0, at + 1)
        return []
    return box_rows(words, at, True)
