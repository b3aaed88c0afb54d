"""Sights, reckoned by the tests themselves: views tried at all places where something changes, and between.

A sight is (unit, pixel, rounding, moves); a rounding is (threshold, is_from).
"""

from fractions import Fraction

from allzooms.sights import Sight
from tests.plain_pixels import any_rounding, made_rounding
from tests.reckon import rounded

SIDES = ("low", "high")


def made_sight(sight):
    return Sight(sight[0], sight[1], made_rounding(sight[2]), sight[3])


def is_seen(sight, zoom, scroll):
    unit, pixel, rounding, moves = sight
    return rounded(rounding, Fraction(unit * zoom + (scroll if moves else 0))) == pixel


def ends_of(sight):
    """The low and the high place of the pixel."""
    return sight[1] - 1 + sight[2][0], sight[1] + sight[2][0]


def row_told(sights, index, side):
    """A row, as (rise, pull, bound, is_strict): rise z + pull s is at least, or above, a bound."""
    if index is None:
        return 1, 0, Fraction(0), True
    unit, _, (_, is_from), moves = sights[index]
    low, high = ends_of(sights[index])
    return (unit, int(moves), low, not is_from) if side == "low" else (-unit, -int(moves), -high, is_from)


def bar_is_right(sights, rows):
    """Whether rows of an Unseen bar each other."""
    if type(rows) is not tuple or not 1 <= len(rows) <= 3:
        return False
    for row in rows:
        if type(row) is not tuple or len(row) != 3 or type(row[2]) is not int or row[2] < 1 or type(row[1]) is not str:
            return False
        is_zoom = row[0] is None and row[1] == "zoom"
        if not is_zoom and not (type(row[0]) is int and 0 <= row[0] < len(sights) and row[1] in SIDES):
            return False
    if len({row[:2] for row in rows}) < len(rows):
        return False
    told = [(row_told(sights, index, side), weight) for index, side, weight in rows]
    rise, pull, bound = [sum(row[at] * weight for row, weight in told) for at in range(3)]
    return rise == 0 and pull == 0 and (bound > 0 or bound == 0 and any(row[3] for row, _ in told))


class Line:
    """Places in their order, and what lies between them: parts (low, place, high), the place None between two."""

    def __init__(self, places, begin):
        ends = sorted({place for place in places if begin is None or place > begin})
        self.parts = []
        low = begin
        for place in ends:
            self.parts += [(low, None, place), (place, place, place)]
            low = place
        self.parts.append((low, None, None))

    def sample(self, part):
        """A number in a part."""
        low, place, high = part
        if place is not None:
            return place
        if low is None:
            return high - 1 if high is not None else Fraction(0)
        return (low + high) / 2 if high is not None else low + 1

    def quadruple(self, is_in):
        """(low, is_low, high, is_high) of the numbers that are in, which lie side by side; None if there are none."""
        found = [part for part in self.parts if is_in(self.sample(part))]
        if not found:
            return None
        first, last = self.parts.index(found[0]), self.parts.index(found[-1])
        assert last - first + 1 == len(found)
        low = (found[0][0], found[0][1] is not None)
        return (*low, found[-1][2], found[-1][1] is not None)


def scroll_line(sights, zoom):
    """All scrolls at which some sight begins or ends at a zoom."""
    return Line([end - unit * zoom for unit, _, _, moves in sights if moves for end in ends_of_all(sights, unit)], None)


def ends_of_all(sights, unit):
    """The ends of all sights of a unit."""
    return [end for sight in sights if sight[0] == unit for end in ends_of(sight)]


def scrolls_told(sights, zoom):
    return scroll_line(sights, zoom).quadruple(lambda scroll: all(is_seen(sight, zoom, scroll) for sight in sights))


def zooms_told(sights):
    """The zooms at which some scroll shows all sights."""
    places = [end / Fraction(sight[0]) for sight in sights if not sight[3] and sight[0] for end in ends_of(sight)]
    moving = [sight for sight in sights if sight[3]]
    for one in moving:
        for other in moving:
            if one[0] != other[0]:
                places += [(end - far) / Fraction(one[0] - other[0]) for end in ends_of(one) for far in ends_of(other)]
    return Line(places, Fraction(0)).quadruple(lambda zoom: scrolls_told(sights, zoom) is not None)


def still_line(sights, scroll):
    """All zooms at which some sight begins or ends at a scroll."""
    return Line([(end - (scroll if sight[3] else 0)) / Fraction(sight[0]) for sight in sights if sight[0] for end in ends_of(sight)],
                Fraction(0))


def still_told(sights, scroll):
    return still_line(sights, scroll).quadruple(lambda zoom: all(is_seen(sight, zoom, scroll) for sight in sights))


def indexes_told(sights, zoom, scroll):
    return tuple(at for at, sight in enumerate(sights) if is_seen(sight, zoom, scroll))


def most_told(sights, scroll):
    """How many sights can be seen at most at a scroll."""
    line = still_line(sights, scroll)
    return max(len(indexes_told(sights, line.sample(part), scroll)) for part in line.parts)


def needed_marks(sights, scroll):
    """The zooms above 0 at which some stretch begins or ends at which one sight is seen."""
    found = set()
    for sight in sights:
        told = still_told([sight], scroll)
        if told is not None:
            found |= {end for end in (told[0], told[2]) if end}
    return sorted(found)


def any_sights(source, many=None):
    """Sights by chance, most of them as a view shows them; at times as only zooms below 0 would show them."""
    zoom = Fraction(source.choice((1, 1, 1, 1, -1)) * source.randint(1, 12), source.choice((1, 2, 3, 4, 6)))
    scroll = Fraction(source.randint(-9, 9), source.choice((1, 2, 3, 4)))
    wrong, still = source.choice((0, 0, 0.15, 0.3, 0.6)), source.choice((0, 0.3, 0.5, 1))
    roundings = [any_rounding(source) for _ in range(source.choice((1, 1, 2, 3)))]
    units = [source.choice((source.randint(-6, 6), source.randint(0, 4), 0)) for _ in range(3)]
    if source.random() < 0.1:
        units = [unit * source.randint(1, 10 ** 30) for unit in units]
    sights = []
    for _ in range(source.randint(0, 5) if many is None else many):
        unit, rounding, moves = source.choice(units + [source.randint(-9, 9)]), source.choice(roundings), source.random() >= still
        pixel = rounded(rounding, unit * zoom + (scroll if moves else 0))
        sights.append((unit, pixel + (source.choice((-2, -1, 1, 2)) if source.random() < wrong else 0), rounding, moves))
    return sights
