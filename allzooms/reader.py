"""Screens, read from their texts."""

from allzooms.errors import BadText, SnapError
from allzooms.guards import is_guard_name
from allzooms.part_words import read_part
from allzooms.screens import Screen, State

ROWS = (("page", "PAGE"), ("style", "STYLE"), ("zoom", "ZOOM"), ("scroll", "RATIO"))


def read_screen(text):
    """The screen that has this text."""
    if not isinstance(text, str):
        raise BadText(0, 0)
    rows = [row.split(" ") for row in text.split("\n")]
    parts = [row_part(rows, line) for line in range(len(ROWS))]
    page, style, zoom, scroll = parts
    rules = {}
    last = ""
    for line in range(len(ROWS), len(rows)):
        last = guard_name(rows[line], line, last)
        claim = part_behind(rows[line], line, 2, "CLAIM")
        if not claim.holds(zoom, scroll):
            raise BadText(line, 0)
        rules[last] = claim
    screen = Screen(page, style, zoom, scroll)
    screen.state = State(screen.state.drawing, zoom, scroll, rules)
    return screen


def row_part(rows, line):
    """What one of the rows that each text has tells."""
    if line == len(rows):
        raise BadText(line, 0)
    word, symbol = ROWS[line]
    if rows[line][0] != word:
        raise BadText(line, 0)
    return part_behind(rows[line], line, 1, symbol)


def guard_name(words, line, last):
    """The name in the row of a guard, behind the name of the last one."""
    if words[0] != "guard":
        raise BadText(line, 0)
    if len(words) == 1 or not is_guard_name(words[1]) or words[1] <= last:
        raise BadText(line, 1)
    return words[1]


def part_behind(words, line, at, symbol):
    """What a row tells from a word on; what its class refuses is told at the first word of the row."""
    try:
        return read_part(symbol, words, at)
    except BadText as error:
        raise BadText(line, error.word) from None
    except SnapError:
        raise BadText(line, 0) from None
