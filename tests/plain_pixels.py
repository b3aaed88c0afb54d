"""Sides of boxes at views, reckoned by the tests themselves from the words of the document.

A box is (name, offset, units, boxes within); a way is ("edges", rounding, rounding), ("within", rounding),
("carried", rounding), ("row", rounding) or ("least", way, pixels); a rounding is (threshold, is_from).
"""

from fractions import Fraction

from allzooms.pages import Box, Page
from allzooms.roundings import Rounding
from allzooms.ways import AtLeast, ByEdges, Carried, InRow, Style, Within
from tests.reckon import ratio, rounded

NAMES = ("a", "b", "c", "dd", "edge", "from", "least", "zzzzzzzz", "i", "j")


def way_rounding(way):
    return way_rounding(way[1]) if way[0] == "least" else way[1]


def sides(way, box, begin, left_around, beside, zoom, scroll):
    """The pixels of a box; beside is the box ahead of it in its row and its right side, or None."""
    kind, rounding = way[0], way[1]
    if kind == "least":
        left, right = sides(rounding, box, begin, left_around, beside, zoom, scroll)
        return left, left + max(way[2], right - left)
    if kind == "edges":
        return rounded(rounding, begin * zoom + scroll), rounded(way[2], (begin + box[2]) * zoom + scroll)
    if kind == "row" and beside is not None:
        ahead, end = beside
        left = end + rounded(rounding, (box[1] - ahead[1] - ahead[2]) * zoom)
    else:
        left = left_around + rounded(rounding, box[1] * zoom)
    if kind == "carried":
        return left, left_around + rounded(rounding, (box[1] + box[2]) * zoom)
    return left, left + rounded(rounding, box[2] * zoom)


def page_pixels(boxes, default, ways, zoom, scroll, begin=0, around=None):
    """A dict from names to the pixels of all boxes."""
    found = {}
    beside = None
    for box in boxes:
        way = ways.get(box[0], default)
        left_around = rounded(way_rounding(way), Fraction(scroll)) if around is None else around
        pair = sides(way, box, begin + box[1], left_around, beside, zoom, scroll)
        found[box[0]] = pair
        found.update(page_pixels(box[3], default, ways, zoom, scroll, begin + box[1], pair[0]))
        beside = (box, pair[1])
    return found


def made_box(box):
    return Box(box[0], box[1], box[2], *[made_box(inner) for inner in box[3]])


def made_page(boxes):
    return Page(*[made_box(box) for box in boxes])


def made_rounding(rounding):
    return Rounding(ratio(rounding[0]), rounding[1])


def made_way(way):
    if way[0] == "least":
        return AtLeast(made_way(way[1]), way[2])
    if way[0] == "edges":
        return ByEdges(made_rounding(way[1]), made_rounding(way[2]))
    return {"within": Within, "carried": Carried, "row": InRow}[way[0]](made_rounding(way[1]))


def made_style(default, ways):
    return Style(made_way(default), **{name: made_way(way) for name, way in ways.items()})


def any_rounding(source):
    threshold = Fraction(source.randint(0, 4), 4)
    return threshold, threshold == 1 or threshold > 0 and source.random() < 0.6


def any_way(source):
    kind = source.choice(("edges", "within", "carried", "row", "row", "least"))
    if kind == "least":
        return kind, any_way(source), source.randint(1, 4)
    return (kind, any_rounding(source), any_rounding(source)) if kind == "edges" else (kind, any_rounding(source))


def any_ways(source, names=NAMES):
    return {name: any_way(source) for name in source.sample(names, source.randint(0, 3))}


def any_boxes(source, names=NAMES, most=6):
    """Boxes by chance, with unlike names."""
    waiting = source.sample(names, source.randint(1, most))

    def row(depth):
        boxes = []
        offset = source.randint(-2, 3)
        while waiting and (depth == 0 or source.random() < 0.5):
            name, units = waiting.pop(), source.randint(0, 5)
            boxes.append((name, offset, units, row(depth + 1) if depth < 3 and source.random() < 0.5 else []))
            offset += units + source.choice((0, 0, 0, 1, -1, 2))
        return boxes

    return row(0)
