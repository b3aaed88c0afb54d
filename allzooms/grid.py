"""The cells of a turn of zooms at one scroll, and what the terms are there.

The zooms up to 1 / g are parted at the cuts: the stretch up to the first one is the cell 0, the first
one itself the cell 1, and so on, up to 1 / g itself. On a cell each term is one number, and it goes up
alike from each turn of the length 1 / g to the next one.
"""

from math import gcd, lcm

from allzooms.errors import TooMany

MOST_CUTS = 1000


def common_unit(terms):
    """The greatest common divisor of the units of terms, 1 if it is 0."""
    shared = 0
    for unit, _, _ in terms:
        shared = gcd(shared, unit)
    return shared or 1


def cut_points(steps, divisor):
    """The zooms of the first turn at which unit z - shift is whole for one of the steps (unit, shift).

    They are told ascending, in integers, with how many of these go to a whole zoom; no unit is 0.
    """
    scale = divisor
    for unit, shift in steps:
        if abs(unit) > MOST_CUTS * divisor:
            raise TooMany("cuts", MOST_CUTS)
        scale = lcm(scale, unit * shift.under)
    found = {}
    for unit, shift in steps:
        width = scale // abs(unit)
        begin = shift.over * (scale // (unit * shift.under)) % width
        for many in range(abs(unit) // divisor):
            found[(begin or width) + many * width] = True
        if len(found) > MOST_CUTS:
            raise TooMany("cuts", MOST_CUTS)
    return scale, sorted([int(place) for place in found])


class Grid:
    """The cells; zooms are counted in integers, `scale` for each whole zoom."""

    def __init__(self, terms, scroll):
        self.scroll = scroll
        self.divisor = common_unit(terms)
        self.indexes = {}
        self.rows = []
        for unit, moves, rounding in terms:
            shift = rounding.threshold - scroll if moves else rounding.threshold
            self.indexes[f"{unit} {moves} {rounding}"] = len(self.rows)
            self.rows.append((unit, shift, rounding.is_from))
        steps = [(unit, shift) for unit, shift, _ in self.rows if unit != 0]
        self.scale, self.points = cut_points(steps, self.divisor)
        if not self.points or self.points[-1] * self.divisor < self.scale:
            self.points.append(self.scale // self.divisor)

    def index_of(self, term):
        """The index of a term."""
        return self.indexes[f"{term.unit} {term.moves} {term.rounding}"]

    def bounds(self, cell):
        """The ends of a cell, alike for a point."""
        high = self.points[cell // 2]
        if cell % 2 == 1:
            return high, high
        return (self.points[cell // 2 - 1] if cell > 0 else 0), high

    def term_pixels(self, cell):
        """What each term is on a cell of the first turn, by index."""
        low, high = self.bounds(cell)
        pixels = []
        for unit, shift, is_from in self.rows:
            over = unit * low * shift.under - shift.over * self.scale
            under = self.scale * shift.under
            is_up = unit > 0 if low < high and unit != 0 else is_from
            pixels.append(over // under + 1 if is_up else -(-over // under))
        return pixels

    def unit_of(self, term):
        """By how much a term is more for one more whole zoom."""
        return term.unit

    def rise_of(self, drawn):
        """By how much the true part is more for one more whole zoom."""
        return drawn.true_part[0]

    def amount_of(self, drawn):
        """What is drawn but for its terms, its choices and where its zoom lies."""
        return drawn.amount + self.scroll * drawn.true_part[1]


def common_scale(grid, atoms):
    """A whole multiple of the grid's scale and of the lower parts of all numbers in atoms."""
    scale = lcm(grid.scale, grid.scroll.under)
    for drawn, _ in atoms:
        for number in drawn.numbers:
            scale = lcm(scale, number.under)
    return scale
