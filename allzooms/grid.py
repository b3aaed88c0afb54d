"""The cells of a turn of zooms at one scroll, and what the terms are there.

The zooms up to 1 / g are parted at the cuts: the stretch up to the first one is the cell 0, the first
one itself the cell 1, and so on, up to 1 / g itself. On a cell each term is one number, and it goes up
alike from each turn of the length 1 / g to the next one.
"""

from math import gcd, lcm

from allzooms.errors import TooMany

MOST_CUTS = 1000


def common_unit(terms):
    """The greatest common divisor of the units of terms, 1 if it is 0."""
    shared = 0
    for unit, _, _ in terms:
        shared = gcd(shared, unit)
    return shared or 1


class Grid:
    """The cells; zooms are counted in integers, `scale` for each whole zoom."""

    def __init__(self, terms, scroll):
        self.scroll = scroll
        self.divisor = common_unit(terms)
        self.indexes = {}
        self.rows = []
        self.scale = self.divisor
        for unit, moves, rounding in terms:
            if abs(unit) > MOST_CUTS * self.divisor:
                raise TooMany("cuts", MOST_CUTS)
            shift = rounding.threshold - scroll if moves else rounding.threshold
            self.indexes[f"{unit} {moves} {rounding}"] = len(self.rows)
            self.rows.append((unit, shift, rounding.is_from))
            if unit != 0:
                self.scale = lcm(self.scale, unit * shift.under)
        self.points = self.cut_points()
        if not self.points or self.points[-1] * self.divisor < self.scale:
            self.points.append(self.scale // self.divisor)

    def cut_points(self):
        """The zooms of the first turn at which a term steps, ascending, in integers."""
        found = {}
        for unit, shift, _ in self.rows:
            if unit != 0:
                width = self.scale // abs(unit)
                begin = shift.over * (self.scale // (unit * shift.under)) % width
                for many in range(abs(unit) // self.divisor):
                    found[(begin or width) + many * width] = True
            if len(found) > MOST_CUTS:
                raise TooMany("cuts", MOST_CUTS)
        return sorted([int(place) for place in found])

    def index_of(self, term):
        """The index of a term."""
        return self.indexes[f"{term.unit} {term.moves} {term.rounding}"]

    def bounds(self, cell):
        """The ends of a cell, alike for a point."""
        high = self.points[cell // 2]
        if cell % 2 == 1:
            return high, high
        return (self.points[cell // 2 - 1] if cell > 0 else 0), high

    def term_pixels(self, cell):
        """What each term is on a cell of the first turn, by index."""
        low, high = self.bounds(cell)
        pixels = []
        for unit, shift, is_from in self.rows:
            over = unit * low * shift.under - shift.over * self.scale
            under = self.scale * shift.under
            is_up = unit > 0 if low < high and unit != 0 else is_from
            pixels.append(over // under + 1 if is_up else -(-over // under))
        return pixels


def common_scale(grid, atoms):
    """A whole multiple of the grid's scale and of the lower parts of all numbers in atoms."""
    scale = lcm(grid.scale, grid.scroll.under)
    for drawn, _ in atoms:
        for number in drawn.numbers:
            scale = lcm(scale, number.under)
    return scale


class Shape:
    """Something drawn, in integers: all worths are told `scale` times."""

    def __init__(self, drawn, grid, scale):
        self.scale = scale
        self.rise = drawn.true_part[0]
        self.amount = exactly(drawn.amount + grid.scroll * drawn.true_part[1], scale)
        self.counts = [(grid.index_of(term), count) for term, count in drawn.term_rows]
        grown = self.rise + sum([term.unit * count for term, count in drawn.term_rows])
        self.slope = grown * (scale // grid.divisor)
        self.choices = []
        for choice, count in drawn.choice_rows:
            shapes = [Shape(member, grid, scale) for member in choice.members]
            self.choices.append((shapes, choice.sign == "|", count))

    def base(self, pixels):
        """What it is in the first turn but for its choices and where its zoom lies."""
        return self.amount + self.scale * sum([pixels[index] * count for index, count in self.counts])


def exactly(number, scale):
    """A Ratio so many times, which is an integer."""
    return number.over * (scale // number.under)
