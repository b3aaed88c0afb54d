"""The faces of a turn: the parts of its views on each of which each term is one number.

The zooms up to a turn are parted into cells, each one a zoom or the open stretch between two zooms.
In a cell zooms and moved scrolls are counted in integers, `scale` for each whole one. A face is told
by its pixels, what each term is there in the first turn, and by its borders: one line for a place, two
for what lies between two places, none without moving terms. A line is a pair (unit, begin): at a zoom
it is the moved scroll begin - unit zoom.
"""

from math import gcd, lcm

from allzooms.grid import cut_points
from allzooms.ratios import Ratio


class Frame:
    """The terms of something drawn, seen from the moved scroll."""

    def __init__(self, terms):
        self.least = min([int(unit) for unit, moves, _ in terms if moves], default=0)
        self.indexes = {}
        self.rows = []
        self.divisor = 0
        self.lowers = 1
        for unit, moves, rounding in terms:
            seen = unit - self.least if moves else unit
            self.indexes[f"{unit} {moves} {rounding}"] = len(self.rows)
            self.rows.append((seen, moves, rounding.threshold, rounding.is_from))
            self.divisor = gcd(self.divisor, seen)
            self.lowers = lcm(self.lowers, rounding.threshold.under)
        self.divisor = self.divisor or 1
        self.turn = Ratio(1, self.divisor)

    def index_of(self, term):
        """The index of a term."""
        return self.indexes[f"{term.unit} {term.moves} {term.rounding}"]

    def unit_of(self, term):
        """By how much a term is more for one more whole zoom at one moved scroll."""
        return term.unit - self.least if term.moves else term.unit

    def rise_of(self, drawn):
        """By how much the true part is more for one more whole zoom at one moved scroll."""
        return drawn.true_part[0] - drawn.true_part[1] * self.least

    def amount_of(self, drawn):
        """What is drawn but for its terms, its choices and where its view lies."""
        return drawn.amount

    def cut_steps(self):
        """What tells the cuts [grid.py]: of each term that does not move, of each two that do."""
        found = {}
        moving = [(unit, threshold) for unit, moves, threshold, _ in self.rows if moves]
        pairs = [(unit, threshold) for unit, moves, threshold, _ in self.rows if not moves]
        for at, (unit, threshold) in enumerate(moving):
            pairs.extend([(unit - beside, threshold - other) for beside, other in moving[:at]])
        for unit, shift in pairs:
            if unit != 0:
                part = (shift if unit > 0 else -shift) % 1
                found[(abs(unit), part.over, part.under)] = (abs(unit), part)
        return list(found.values())

    def cuts(self):
        """The ascending cuts, Ratios."""
        scale, points = cut_points(self.cut_steps(), self.divisor)
        return [Ratio(point, scale) for point in points]

    def mark_row(self):
        """The ends of the stretches of a turn: 0, the cuts and the turn."""
        cuts = self.cuts()
        return [Ratio(0), *[cut for cut in cuts if cut < self.turn], self.turn]


def cells_between(marks):
    """The bounds of the cells that marks tell: a stretch, the zoom at its end, and so on."""
    bounds = []
    for low, high in zip(marks, marks[1:]):
        bounds.append((low, high))
        bounds.append((high, high))
    return bounds


class Cell:
    """A zoom of a turn, or a stretch of zooms on which the places keep their order."""

    def __init__(self, frame, low, high):
        self.scale = 2 * lcm(frame.lowers, low.under, high.under)
        self.low = low.over * (self.scale // low.under)
        self.high = high.over * (self.scale // high.under)
        self.frame = frame

    def faces(self):
        """The faces of this cell."""
        middle = (self.low + self.high) // 2
        pixels = []
        lines = {}
        steps = {}
        for index, (unit, moves, threshold, is_from) in enumerate(self.frame.rows):
            bound = threshold.over * (self.scale // threshold.under)
            over = unit * middle - bound
            pixel = -(-over // self.scale)
            if not moves:
                pixels.append(over // self.scale + 1 if is_from else pixel)
                continue
            pixels.append(pixel)
            place = pixel * self.scale - over
            lines[place] = (unit, pixel * self.scale + bound)
            steps.setdefault(place, []).append((index, is_from))
        places = sorted([int(place) for place in lines])
        if not places:
            return [Face(self, pixels, (), [])]
        return self.faces_between([lines[place] for place in places], [steps[place] for place in places], pixels)

    def faces_between(self, lines, steps, pixels):
        """The faces at and behind each line, where terms step; pixels are those ahead of the first one."""
        faces = []
        beyond = (lines[0][0], lines[0][1] + self.scale)
        for line, later, row in zip(lines, [*lines[1:], beyond], steps):
            at = list(pixels)
            behind = list(pixels)
            for index, is_from in row:
                behind[index] += 1
                if is_from:
                    at[index] += 1
            faces.append(Face(self, at, (line,), [index for index, is_from in row if is_from]))
            faces.append(Face(self, behind, (line, later), [index for index, is_from in row if not is_from]))
            pixels = behind
        return faces


class Face:
    """A face of a cell."""

    def __init__(self, cell, pixels, borders, stepped):
        self.cell = cell
        self.pixels = pixels
        self.borders = borders
        # The indexes of the terms that are other ones than on the face ahead in the same cell.
        self.stepped = stepped
        self.known = {}

    def corners(self):
        """Its ends, pairs (zoom, moved scroll), in the integers of its cell."""
        low, high = self.cell.low, self.cell.high
        zooms = [low] if low == high else [low, high]
        if not self.borders:
            return [(zoom, 0) for zoom in zooms]
        return [(zoom, begin - unit * zoom) for zoom in zooms for unit, begin in self.borders]

    def bounds(self, rise, pull):
        """The least and the greatest one of rise zoom + pull scroll at the corners, in the cell's integers."""
        if (rise, pull) not in self.known:
            limits = [rise * zoom + pull * moved for zoom, moved in self.corners()]
            self.known[(rise, pull)] = (min([int(limit) for limit in limits]), max([int(limit) for limit in limits]))
        return self.known[(rise, pull)]

    def area(self):
        """Twice how much of zooms and moved scrolls it has, in the cell's integers."""
        low, high = self.cell.low, self.cell.high
        if len(self.borders) == 1:
            return 0
        wide = 2 * self.cell.scale
        if self.borders:
            (unit, begin), (later, end) = self.borders
            wide = 2 * (end - begin) - (later - unit) * (low + high)
        return wide * (high - low)

    def corner_view(self, at, turn):
        """The corner of an index in a turn: its zoom and its scroll, Ratios."""
        zoom, moved = self.corners()[at]
        return self.view(zoom, moved, 1, turn)

    def middle_view(self, turn):
        """A view of this face in a turn, Ratios: the middle of its corners."""
        corners = self.corners()
        zoom = sum([zoom for zoom, _ in corners])
        return self.view(zoom, sum([moved for _, moved in corners]), len(corners), turn)

    def view(self, zoom, moved, many, turn):
        """A view of sums of so many zooms and scrolls in a turn."""
        scale = self.cell.scale * many
        place = Ratio(zoom, scale) + self.cell.frame.turn * turn
        return place, Ratio(moved, scale) - place * self.cell.frame.least
