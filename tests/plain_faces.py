"""All faces of a turn, reckoned by the tests themselves in fractions, from the words of the document."""

import functools
import math
from fractions import Fraction


def terms_of(thing):
    """The unlike terms of a thing or a claim [reckon.py], as (kind, unit, rounding)."""
    kind = thing[0]
    if kind in ("edge", "size"):
        return {thing} if kind == "edge" or thing[1] else set()
    if kind in ("number", "true"):
        return set()
    if kind in ("<=", "<"):
        return terms_of(thing[1])
    parts = [part for _, part in thing[1]] if kind == "sum" else thing[1]
    return set().union(*[terms_of(part) for part in parts])


def least_unit(terms):
    return min((term[1] for term in terms if term[0] == "edge"), default=0)


def divisor(terms):
    """What a whole zoom is parted into, turn by turn."""
    least = least_unit(terms)
    return math.gcd(*[term[1] - (least if term[0] == "edge" else 0) for term in terms]) or 1


def cut_list(terms):
    """The cuts, by trying all zooms of the turn at which some difference is whole."""
    turn = Fraction(1, divisor(terms))
    rows = [(term[1], term[2][0]) for term in terms if term[0] == "size"]
    moving = [term for term in terms if term[0] == "edge"]
    rows += [(one[1] - other[1], one[2][0] - other[2][0]) for one in moving for other in moving if one[1] > other[1]]
    found = set()
    for unit, shift in rows:
        for whole in range(-abs(unit) - 2, abs(unit) + 3):
            zoom = (whole + shift) / Fraction(unit)
            if 0 < zoom <= turn:
                found.add(zoom)
    return sorted(found)


def places_at(terms, zoom):
    """The ascending places at a zoom."""
    least = least_unit(terms)
    return sorted({(term[2][0] - (term[1] - least) * zoom) % 1 for term in terms if term[0] == "edge"})


class PlainFace:
    """A face of a turn: a view in it, and its corners, as (zoom, scroll)."""

    def __init__(self, view, corners, area):
        self.view = view
        self.corners = corners
        self.area = area

    def near_views(self):
        """The view, and views very near to each corner."""
        near = Fraction(1, 10 ** 12)
        return [self.view] + [tuple(own * near + end * (1 - near) for own, end in zip(self.view, corner))
                              for corner in self.corners]


def follow(terms, zoom, place, other):
    """The unrolled places at another zoom of the lines that pass a place at a zoom."""
    least = least_unit(terms)
    lines = {place - (term[1] - least) * (other - zoom) for term in terms
             if term[0] == "edge" and (term[2][0] - (term[1] - least) * zoom - place) % 1 == 0}
    assert len(lines) == 1
    return lines.pop()


def shapes_of_cell(terms, low, high):
    """The faces of a cell of zooms in the first turn: a middle, corners, as (zoom, moved scroll), and an area."""
    middle = (low + high) / 2
    ends = sorted({low, high})
    places = places_at(terms, middle)
    if not places:
        return [((middle, Fraction(0)), [(end, Fraction(0)) for end in ends], high - low)]
    lines = [[(end, follow(terms, middle, place, end)) for end in ends] for place in places]
    lines.append([(end, moved + 1) for end, moved in lines[0]])
    faces = []
    for at, place in enumerate(places):
        beside = places[at + 1] if at + 1 < len(places) else places[0] + 1
        area = (high - low) * sum(other[1] - one[1] for one, other in zip(lines[at], lines[at + 1])) / 2
        faces.append(((middle, place), lines[at], 0))
        faces.append(((middle, (place + beside) / 2), lines[at] + lines[at + 1], area))
    return faces


def placed(terms, shapes, turn):
    """The faces in a turn."""
    later = Fraction(turn, divisor(terms))
    least = least_unit(terms)

    def seen(zoom, moved):
        return zoom + later, moved - least * (zoom + later)

    return [PlainFace(seen(*middle), [seen(*corner) for corner in corners], area) for middle, corners, area in shapes]


def faces_of_cell(terms, low, high, turn):
    """The faces of a cell of zooms, in a turn."""
    return placed(terms, shapes_of_cell(terms, low, high), turn)


@functools.lru_cache(maxsize=4)
def all_shapes(terms):
    """The faces of the first turn, cell by cell."""
    turn = Fraction(1, divisor(terms))
    ends = [Fraction(0)] + cut_list(terms)
    if ends[-1] != turn:
        ends.append(turn)
    bounds = [bound for low, high in zip(ends, ends[1:]) for bound in ((low, high), (high, high))]
    return [shapes_of_cell(terms, low, high) for low, high in bounds]


def all_faces(terms, turn):
    """All faces of a turn, cell by cell."""
    return [placed(terms, shapes, turn) for shapes in all_shapes(frozenset(terms))]
