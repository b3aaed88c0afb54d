"""All faces of a turn, reckoned by the tests themselves in fractions, from the words of the document."""

import math
from fractions import Fraction


def terms_of(thing):
    """The unlike terms of a thing or a claim [reckon.py], as (kind, unit, rounding)."""
    kind = thing[0]
    if kind in ("edge", "size"):
        return {thing} if kind == "edge" or thing[1] else set()
    if kind in ("number", "true"):
        return set()
    if kind in ("<=", "<"):
        return terms_of(thing[1])
    parts = [part for _, part in thing[1]] if kind == "sum" else thing[1]
    return set().union(*[terms_of(part) for part in parts])


def least_unit(terms):
    return min((term[1] for term in terms if term[0] == "edge"), default=0)


def divisor(terms):
    """What a whole zoom is parted into, turn by turn."""
    least = least_unit(terms)
    return math.gcd(*[term[1] - (least if term[0] == "edge" else 0) for term in terms]) or 1


def cut_list(terms):
    """The cuts, by trying all zooms of the turn at which some difference is whole."""
    turn = Fraction(1, divisor(terms))
    rows = [(term[1], term[2][0]) for term in terms if term[0] == "size"]
    moving = [term for term in terms if term[0] == "edge"]
    rows += [(one[1] - other[1], one[2][0] - other[2][0]) for one in moving for other in moving if one[1] > other[1]]
    found = set()
    for unit, shift in rows:
        for whole in range(-abs(unit) - 2, abs(unit) + 3):
            zoom = (whole + shift) / Fraction(unit)
            if 0 < zoom <= turn:
                found.add(zoom)
    return sorted(found)


def places_at(terms, zoom):
    """The ascending places at a zoom."""
    least = least_unit(terms)
    return sorted({(term[2][0] - (term[1] - least) * zoom) % 1 for term in terms if term[0] == "edge"})


class PlainFace:
    """A face of a turn: a view in it, and its corners, as (zoom, scroll)."""

    def __init__(self, view, corners, area):
        self.view = view
        self.corners = corners
        self.area = area

    def near_views(self):
        """The view, and views very near to each corner."""
        near = Fraction(1, 10 ** 12)
        return [self.view] + [tuple(own * near + end * (1 - near) for own, end in zip(self.view, corner))
                              for corner in self.corners]


def follow(terms, zoom, place, other):
    """The unrolled places at another zoom of the lines that pass a place at a zoom."""
    least = least_unit(terms)
    lines = {place - (term[1] - least) * (other - zoom) for term in terms
             if term[0] == "edge" and (term[2][0] - (term[1] - least) * zoom - place) % 1 == 0}
    assert len(lines) == 1
    return lines.pop()


def faces_of_cell(terms, low, high, turn):
    """The faces of a cell of zooms, in a turn."""
    middle = (low + high) / 2
    later = Fraction(turn, divisor(terms))
    least = least_unit(terms)

    def seen(zoom, moved):
        return zoom + later, moved - least * (zoom + later)

    places = places_at(terms, middle)
    if not places:
        return [PlainFace(seen(middle, Fraction(0)), [seen(end, Fraction(0)) for end in sorted({low, high})], high - low)]
    faces = []
    for at, place in enumerate(places):
        ends = [(end, follow(terms, middle, place, end)) for end in sorted({low, high})]
        faces.append(PlainFace(seen(middle, place), [seen(*end) for end in ends], 0))
        beside = places[at + 1] if at + 1 < len(places) else places[0] + 1
        others = [(end, follow(terms, middle, beside, end)) for end in sorted({low, high})]
        area = (high - low) * sum(other[1] - one[1] for one, other in zip(ends, others)) / 2
        faces.append(PlainFace(seen(middle, (place + beside) / 2), [seen(*end) for end in ends + others], area))
    return faces


def cells(terms):
    """The cells of a turn: stretches and zooms."""
    turn = Fraction(1, divisor(terms))
    ends = [Fraction(0)] + cut_list(terms)
    if ends[-1] != turn:
        ends.append(turn)
    found = []
    for low, high in zip(ends, ends[1:]):
        found += [(low, high), (high, high)]
    return found


def all_faces(terms, turn):
    """All faces of a turn, cell by cell."""
    return [faces_of_cell(terms, low, high, turn) for low, high in cells(terms)]
