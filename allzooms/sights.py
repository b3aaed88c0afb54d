"""Sights: edges that are seen at pixels, and the views that show them so."""

from allzooms.checks import check_view, is_zoom
from allzooms.errors import BadScroll, BadSight, BadZoom, TooMany
from allzooms.ratios import Ratio, is_integer, is_number
from allzooms.roundings import Rounding
from allzooms.sight_rows import Span, all_rows, barring_rows, indexes_at, stretch_ends
from allzooms.sight_rows import sums_at_scroll, sums_at_zoom, zoom_sums, zooms_among
from allzooms.views import Verdict

MOST_SIGHTS = 40


def check_sights(sights):
    """Refuses what are no sights, or too many."""
    for at, sight in enumerate(sights):
        if not isinstance(sight, Sight):
            raise BadSight(at)
    if len(sights) > MOST_SIGHTS:
        raise TooMany("sights", MOST_SIGHTS)


def check_scroll(scroll):
    """Refuses what is no scroll."""
    if not is_number(scroll):
        raise BadScroll(scroll)


class Sight:
    """An edge of a unit is seen at a pixel."""

    def __init__(self, unit, pixel, rounding=None, moves=True):
        if not is_integer(unit):
            raise BadSight("unit")
        if not is_integer(pixel):
            raise BadSight("pixel")
        if rounding is not None and not isinstance(rounding, Rounding):
            raise BadSight("rounding")
        if not isinstance(moves, bool):
            raise BadSight("moves")
        self.unit = unit
        self.pixel = pixel
        self.rounding = Rounding.half_up() if rounding is None else rounding
        self.moves = moves

    def __call__(self, zoom, scroll=0):
        check_view(zoom, scroll)
        return self.is_seen(Ratio.of(zoom), Ratio.of(scroll))

    def is_seen(self, zoom, scroll):
        """Whether it is seen so at a view of two Ratios."""
        place = zoom * self.unit
        return self.rounding.drawn_at(place + scroll if self.moves else place) == self.pixel

    def __eq__(self, other):
        if not isinstance(other, Sight) or self.unit != other.unit or self.pixel != other.pixel:
            return False
        return self.rounding == other.rounding and self.moves == other.moves


class Seen(Verdict):
    """A paper: a view at which all sights are seen."""

    def __init__(self, zoom, scroll):
        self.zoom = zoom
        self.scroll = scroll

    def __eq__(self, other):
        return isinstance(other, Seen) and self.zoom == other.zoom and self.scroll == other.scroll


class Unseen(Verdict):
    """A paper, a false one: rows of sights that bar each other, with their weights."""

    def __init__(self, rows):
        self.rows = rows

    def __eq__(self, other):
        return isinstance(other, Unseen) and self.rows == other.rows

    def __bool__(self):
        return False


class Agreed:
    """A paper: a zoom at which as many sights as can be are seen, which, and the zooms at which this changes."""

    def __init__(self, zoom, indexes, marks):
        self.zoom = zoom
        self.indexes = indexes
        self.marks = marks

    def __eq__(self, other):
        if not isinstance(other, Agreed) or self.zoom != other.zoom:
            return False
        return self.indexes == other.indexes and self.marks == other.marks


def seen(*sights):
    """A view at which all sights are seen, or rows that bar each other: a Seen, or an Unseen."""
    check_sights(sights)
    rows = all_rows(sights)
    barred = barring_rows(rows)
    if barred is not None:
        return Unseen(tuple([(row.index, row.side, weight) for row, weight in barred]))
    zoom = Span(zoom_sums(rows)).middle()
    return Seen(zoom, Span(sums_at_zoom(rows, zoom)).middle())


def zoom_range(*sights):
    """The zooms at which some scroll shows all sights: (low, is_low, high, is_high), None if there are none."""
    check_sights(sights)
    return Span(zoom_sums(all_rows(sights))).quadruple()


def scroll_range(zoom, *sights):
    """The scrolls at which all sights are seen at a zoom, likewise."""
    if not is_zoom(zoom):
        raise BadZoom(zoom)
    check_sights(sights)
    return Span(sums_at_zoom(all_rows(sights), Ratio.of(zoom))).quadruple()


def still_range(scroll, *sights):
    """The zooms at which all sights are seen at a scroll, likewise."""
    check_scroll(scroll)
    check_sights(sights)
    return Span(sums_at_scroll(all_rows(sights), Ratio.of(scroll))).quadruple()


def most_seen(scroll, *sights):
    """A zoom at which as many sights as can be are seen at a scroll: an Agreed."""
    check_scroll(scroll)
    check_sights(sights)
    place = Ratio.of(scroll)
    marks = stretch_ends(sights, place)
    best = None
    for zoom in zooms_among(marks):
        indexes = indexes_at(sights, zoom, place)
        if best is None or len(indexes) > len(best.indexes):
            best = Agreed(zoom, indexes, tuple(marks))
    return best
