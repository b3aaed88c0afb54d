"""Sets of zooms from what holds in the cells of a turn, turn by turn."""

from allzooms.errors import TooMany
from allzooms.ratios import Ratio
from allzooms.zooms import Zooms

MOST_MARKS = 3000


class TurnMarks:
    """The marks of a set of zooms, turn by turn.

    The points, in integers of which `scale` go to a whole zoom, part the zooms up to 1 / divisor into
    cells [grid.py]; for each cell there is a story [holding.py].
    """

    def __init__(self, points, scale, divisor, stories):
        self.divisor = divisor
        self.scale = scale
        self.points = points
        self.by_turn = {}
        for cell, story in enumerate(stories):
            for turn, content in story:
                if turn not in self.by_turn:
                    self.by_turn[turn] = []
                self.by_turn[turn].append((cell, content))
        self.contents = [None for _ in stories]
        # The cells in which something changes, the last one left out: it hangs on the turn behind.
        self.busy = {}
        self.marks = []

    def as_zooms(self, last):
        """The set, told up to this turn, or to the last one in which another thing holds than ahead of it."""
        starts = sorted([int(turn) for turn in self.by_turn])
        first = is_first = self.first_truth(0, False)
        for start, end in zip(starts, [*starts[1:], None]):
            self.renew(self.by_turn[start])
            first = self.first_truth(start, first)
            if end is None:
                last = max(last, int(start))
                self.put_turns(start, last - start + 1, first)
            else:
                self.put_turns(start, end - start - 1, first)
                self.put_turns(end - 1, 1, self.first_truth(end, first))
        return Zooms(Ratio(last, self.divisor), Ratio(1, self.divisor), tuple(self.marks), is_first)

    def first_truth(self, turn, before):
        """What holds at the begin of a turn; before is what did in the turn ahead."""
        firsts = [content[0] for cell, content in self.by_turn[turn] if cell == 0]
        return firsts[0] if firsts else before

    def renew(self, rows):
        """Sets the contents of cells that are other ones now."""
        for cell, content in rows:
            self.contents[cell] = content
        for cell, _ in rows:
            for beside in (cell - 1, cell, cell + 1):
                if 0 <= beside < len(self.contents) - 1:
                    if self.cell_marks(beside, None):
                        self.busy[beside] = True
                    else:
                        self.busy.pop(beside, None)

    def cell_marks(self, cell, next_first):
        """The marks in a cell; behind the last one comes the begin of the next turn."""
        if cell % 2 == 0:
            return self.contents[cell][1]
        truth, marks = self.contents[cell - 1]
        ahead = marks[-1][2] if marks else truth
        at = self.contents[cell][0]
        behind = next_first if cell + 1 == len(self.contents) else self.contents[cell + 1][0]
        return () if ahead == at and at == behind else ((self.points[cell // 2], at, behind),)

    def put_turns(self, turn, many, next_first):
        """Puts the marks of so many turns, from one on, behind which comes one that begins so."""
        rows = []
        busy = sorted([int(cell) for cell in self.busy])
        for cell in [*busy, len(self.contents) - 1]:
            rows.extend(self.cell_marks(cell, next_first))
        if len(self.marks) + len(rows) * many > MOST_MARKS:
            raise TooMany("marks", MOST_MARKS)
        if not rows:
            return
        for later in range(turn, turn + many):
            ahead = later * (self.scale // self.divisor)
            for place, is_at, is_behind in rows:
                self.marks.append((Ratio(ahead + place, self.scale), is_at, is_behind))
