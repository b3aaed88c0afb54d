"""At which zooms a claim holds, at one scroll."""

from allzooms.drawn import Claim
from allzooms.errors import BadClaim, BadScroll, TooMany
from allzooms.grid import Grid
from allzooms.holding import MOST_MARKS, Holding
from allzooms.ratios import Ratio, is_number
from allzooms.zooms import Zooms


def zooms_at(claim, scroll=0):
    """The Zooms at which a claim holds at a scroll."""
    if not isinstance(claim, Claim):
        raise BadClaim("claim")
    if not is_number(scroll):
        raise BadScroll(scroll)
    grid = Grid(claim.terms, Ratio.of(scroll))
    holding = Holding(claim, grid)
    return TurnMarks(grid, holding).as_zooms()


class TurnMarks:
    """The marks of the set of zooms at which a claim holds, turn by turn."""

    def __init__(self, grid, holding):
        self.divisor = grid.divisor
        self.scale = holding.scale
        self.points = [point * (holding.scale // grid.scale) for point in grid.points]
        self.by_turn = {}
        for cell in range(2 * len(grid.points)):
            for turn, content in holding.story(cell):
                if turn not in self.by_turn:
                    self.by_turn[turn] = []
                self.by_turn[turn].append((cell, content))
        self.contents = [None for _ in range(2 * len(grid.points))]
        # The cells in which something changes, the last one left out: it hangs on the turn behind.
        self.busy = {}
        self.marks = []

    def as_zooms(self):
        """The set, up to the last turn in which another thing holds than in the turn ahead."""
        starts = sorted([int(turn) for turn in self.by_turn])
        first = is_first = self.first_truth(0, False)
        for start, end in zip(starts, [*starts[1:], None]):
            self.renew(self.by_turn[start])
            first = self.first_truth(start, first)
            if end is None:
                self.put_turns(start, 1, first)
            else:
                self.put_turns(start, end - start - 1, first)
                self.put_turns(end - 1, 1, self.first_truth(end, first))
        begin = Ratio(starts[-1], self.divisor)
        return Zooms(begin, Ratio(1, self.divisor), tuple(self.marks), is_first)

    def first_truth(self, turn, before):
        """What holds at the begin of a turn; before is what did in the turn ahead."""
        firsts = [content[0] for cell, content in self.by_turn[turn] if cell == 0]
        return firsts[0] if firsts else before

    def renew(self, rows):
        """Sets the contents of cells that are other ones now."""
        for cell, content in rows:
            self.contents[cell] = content
        for cell, _ in rows:
            for beside in (cell - 1, cell, cell + 1):
                if 0 <= beside < len(self.contents) - 1:
                    if self.cell_marks(beside, None):
                        self.busy[beside] = True
                    else:
                        self.busy.pop(beside, None)

    def cell_marks(self, cell, next_first):
        """The marks in a cell; behind the last one comes the begin of the next turn."""
        if cell % 2 == 0:
            return self.contents[cell][1]
        truth, marks = self.contents[cell - 1]
        ahead = marks[-1][2] if marks else truth
        at = self.contents[cell][0]
        behind = next_first if cell + 1 == len(self.contents) else self.contents[cell + 1][0]
        return () if ahead == at and at == behind else ((self.points[cell // 2], at, behind),)

    def put_turns(self, turn, many, next_first):
        """Puts the marks of so many turns, from one on, behind which comes one that begins so."""
        rows = []
        busy = sorted([int(cell) for cell in self.busy])
        for cell in [*busy, len(self.contents) - 1]:
            rows.extend(self.cell_marks(cell, next_first))
        if len(self.marks) + len(rows) * many > MOST_MARKS:
            raise TooMany("marks", MOST_MARKS)
        if not rows:
            return
        for later in range(turn, turn + many):
            ahead = later * (self.scale // self.divisor)
            for place, is_at, is_behind in rows:
                self.marks.append((Ratio(ahead + place, self.scale), is_at, is_behind))
