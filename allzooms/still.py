"""At which zooms a claim holds, at one scroll."""

from allzooms.claim_checks import check_claim
from allzooms.errors import BadScroll
from allzooms.grid import Grid
from allzooms.holding import Holding
from allzooms.ratios import Ratio, is_number
from allzooms.turn_marks import TurnMarks


def zooms_at(claim, scroll=0):
    """The Zooms at which a claim holds at a scroll."""
    check_claim(claim)
    if not is_number(scroll):
        raise BadScroll(scroll)
    grid = Grid(claim.terms, Ratio.of(scroll))
    holding = Holding(claim, grid)
    stories = [holding.story(cell) for cell in range(2 * len(grid.points))]
    points = [point * (holding.scale // grid.scale) for point in grid.points]
    return TurnMarks(points, holding.scale, grid.divisor, stories).as_zooms(0)
