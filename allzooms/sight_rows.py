"""What sights tell of zooms and scrolls, row by row.

A row tells that rise z + pull s is at least a bound, or, if it is strict, above it. A sum of rows tells
the same of one unknown alone, the zoom or the scroll.
"""

from math import gcd

from allzooms.ratios import Ratio


class SightRow:
    """A row: which Sight tells it, and of which side of its pixel."""

    def __init__(self, index, side, rise, pull, bound, is_strict):
        self.index = index
        self.side = side
        self.rise = rise
        self.pull = pull
        self.bound = bound
        self.is_strict = is_strict


def sight_rows(index, sight):
    """The two rows of a Sight."""
    low, is_low, high, is_high = sight.rounding.places(sight.pixel)
    pull = 1 if sight.moves else 0
    return [
        SightRow(index, "low", sight.unit, pull, low, not is_low),
        SightRow(index, "high", -sight.unit, -pull, -high, not is_high),
    ]


def all_rows(sights):
    """The rows of sights, behind the one that a zoom is above 0."""
    rows = [SightRow(None, "zoom", 1, 0, Ratio(0), True)]
    for index, sight in enumerate(sights):
        rows.extend(sight_rows(index, sight))
    return rows


class RowSum:
    """A sum of rows: rise times the unknown is at least a bound, or above it."""

    def __init__(self, rise, bound, is_strict, rows):
        self.rise = rise
        self.bound = bound
        self.is_strict = is_strict
        self.rows = rows
        # Where the unknown begins, or, for a rise below 0, ends.
        self.border = bound.divided(rise) if rise else bound

    def is_barred(self):
        """Whether it tells, without the unknown, what is not so."""
        return self.rise == 0 and (self.bound > 0 or self.bound == 0 and self.is_strict)


def zoom_sums(rows):
    """What rows tell of the zoom: those without the scroll, and each two in which it cancels out."""
    sums = [RowSum(row.rise, row.bound, row.is_strict, (row,)) for row in rows if row.pull == 0]
    falling = [row for row in rows if row.pull < 0]
    for row in rows:
        if row.pull > 0:
            for other in falling:
                is_strict = row.is_strict or other.is_strict
                sums.append(RowSum(row.rise + other.rise, row.bound + other.bound, is_strict, (row, other)))
    return sums


def sums_at_scroll(rows, scroll):
    """What rows tell of the zoom at a scroll."""
    return [RowSum(row.rise, row.bound - scroll * row.pull, row.is_strict, (row,)) for row in rows]


def sums_at_zoom(rows, zoom):
    """What rows tell of the scroll at a zoom."""
    return [RowSum(row.pull, row.bound - zoom * row.rise, row.is_strict, (row,)) for row in rows]


class Span:
    """What is left of an unknown by sums of rows."""

    def __init__(self, sums):
        self.low = None
        self.high = None
        self.barred = [told for told in sums if told.is_barred()]
        for told in sums:
            if told.rise > 0 and leaves_less(told, self.low):
                self.low = told
            if told.rise < 0 and leaves_less(told, self.high):
                self.high = told

    def is_empty(self):
        """Whether nothing is left."""
        return bool(self.barred) or self.is_crossed()

    def is_crossed(self):
        """Whether the begin lies behind the end."""
        if self.low is None or self.high is None:
            return False
        is_open = self.low.is_strict or self.high.is_strict
        return self.low.border > self.high.border or self.low.border == self.high.border and is_open

    def bar(self):
        """Pairs (row, weight): rows that, so many times, leave nothing; None if something is left."""
        if self.barred:
            return [(row, 1) for row in self.barred[0].rows]
        if not self.is_crossed():
            return None
        shared = gcd(self.low.rise, self.high.rise)
        return joined_weights(self.low.rows, -self.high.rise // shared, self.high.rows, self.low.rise // shared)

    def quadruple(self):
        """(low, is_low, high, is_high); None for what has no begin or no end; None if nothing is left."""
        if self.is_empty():
            return None
        low, is_low, high, is_high = None, False, None, False
        if self.low is not None:
            low, is_low = self.low.border, not self.low.is_strict
        if self.high is not None:
            high, is_high = self.high.border, not self.high.is_strict
        return low, is_low, high, is_high

    def middle(self):
        """A number that is left, if one is."""
        if self.low is None:
            return Ratio(0) if self.high is None else self.high.border - 1
        if self.high is None:
            return self.low.border + 1
        return (self.low.border + self.high.border).divided(2)


def leaves_less(told, other):
    """Whether a sum leaves less than another one on the same side, or there is no other one."""
    if other is None:
        return True
    if told.border == other.border:
        return told.is_strict and not other.is_strict
    return (told.border > other.border) == (told.rise > 0)


def joined_weights(rows, weight, others, other_weight):
    """Pairs (row, weight) of unlike rows: some with a weight, others with another one."""
    by_key = {}
    weights = {}
    for row in rows:
        by_key[(row.index, row.side)] = row
        weights[(row.index, row.side)] = weight
    for row in others:
        key = (row.index, row.side)
        by_key[key] = row
        weights[key] = weights.get(key, 0) + other_weight
    return [(by_key[key], weights[key]) for key in by_key]


def barring_rows(rows):
    """Pairs (row, weight) of at most three rows that bar each other; None if some view fits all rows."""
    found = Span(zoom_sums(rows)).bar()
    if found is None or len(found) <= 3:
        return found
    # Of four rows that have no view in common, three have none.
    fewer = None
    for at in range(len(found)):
        if fewer is None:
            fewer = barring_rows([row for row, _ in found[:at] + found[at + 1:]])
    return fewer


def stretch_ends(sights, scroll):
    """The ascending zooms above 0 at which some stretch begins or ends at which one of the sights is seen."""
    ends = []
    for sight in sights:
        told = Span(sums_at_scroll(all_rows([sight]), scroll)).quadruple()
        if told is not None:
            ends.extend([end for end in (told[0], told[2]) if end is not None and end > 0])
    return ascending(ends)


def ascending(numbers):
    """Unlike Ratios in their order."""
    found = []
    for number in numbers:
        at = len([other for other in found if other < number])
        if at == len(found) or found[at] != number:
            found.insert(at, number)
    return found


def zooms_among(marks):
    """The marks, and a zoom ahead of the first one, one between each two, and one behind the last one."""
    if not marks:
        return [Ratio(1)]
    found = [marks[0].divided(2)]
    for mark, later in zip(marks, marks[1:]):
        found.extend([mark, (mark + later).divided(2)])
    return [*found, marks[-1], marks[-1] + 1]


def indexes_at(sights, zoom, scroll):
    """The ascending tuple of the indexes of the sights that are seen at a view of two Ratios."""
    return tuple([index for index, sight in enumerate(sights) if sight.is_seen(zoom, scroll)])
