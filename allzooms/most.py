"""The greatest and the least worth of something drawn, and the worths near a point."""

from allzooms.drawn import Drawn
from allzooms.errors import BadDrawn, BadScroll, BadZoom
from allzooms.nearby import near_worths
from allzooms.peaks import Peak
from allzooms.ratios import Ratio, is_number


class Endless:
    """A paper, a false one: there is no bound, far zooms gain so much for each whole zoom."""

    def __init__(self, gain):
        self.gain = gain

    def __eq__(self, other):
        return isinstance(other, Endless) and self.gain == other.gain

    def __bool__(self):
        return False


class Most:
    """A paper: a bound of all worths, where it is reached or come near to, and what shows this."""

    def __init__(self, number, is_reached, zoom, scroll, marks, turns):
        self.number = number
        self.is_reached = is_reached
        self.zoom = zoom
        self.scroll = scroll
        self.marks = marks
        self.turns = turns

    def __eq__(self, other):
        if not isinstance(other, Most) or self.number != other.number or self.is_reached != other.is_reached:
            return False
        if self.zoom != other.zoom or self.scroll != other.scroll:
            return False
        return self.marks == other.marks and self.turns == other.turns


def check_level(drawn):
    """Refuses what is nothing drawn, or has a scroll weight."""
    if not isinstance(drawn, Drawn):
        raise BadDrawn("drawn")
    if drawn.weight != 0:
        raise BadDrawn("scroll")


def greatest(drawn):
    """The least number that no worth is above: a Most, or an Endless."""
    check_level(drawn)
    if drawn.growth > 0:
        return Endless(drawn.growth)
    peak = Peak(drawn)
    zoom, scroll = peak.place()
    return Most(peak.number, peak.is_reached, zoom, scroll, peak.marks, peak.turns)


def least(drawn):
    """The greatest number that no worth is below: a Most, or an Endless."""
    check_level(drawn)
    if drawn.growth < 0:
        return Endless(drawn.growth)
    peak = Peak(-drawn)
    zoom, scroll = peak.place()
    return Most(-peak.number, peak.is_reached, zoom, scroll, peak.marks, peak.turns)


def stays(drawn):
    """Whether all views have one worth."""
    high = greatest(drawn)
    low = least(drawn)
    return bool(high) and bool(low) and high.number == low.number


def limits(drawn, zoom, scroll):
    """The ascending tuple of the unlike numbers to which the worths of views near a point come."""
    check_level(drawn)
    if not is_number(zoom) or zoom < 0:
        raise BadZoom(zoom)
    if not is_number(scroll):
        raise BadScroll(scroll)
    return near_worths(drawn, Ratio.of(zoom), Ratio.of(scroll))
