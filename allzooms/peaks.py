"""The least number that nothing drawn is above, and where it is reached or come near to."""

from allzooms.bends import piece_ends
from allzooms.errors import TooMany
from allzooms.faces import Cell, Frame, cells_between
from allzooms.ratios import Ratio
from allzooms.turns import MOST_TURNS, Watched, telling_turns


def row_peak(row):
    """The greatest value of a row that falls at last or stays, and a turn with it."""
    best = None
    for begin, end, slope, base in piece_ends(row):
        turn = end - 1 if end is not None and slope > 0 else begin
        if best is None or slope * turn + base > best[0]:
            best = (slope * turn + base, turn)
    return best


class Peak:
    """The peak of something drawn that does not grow."""

    def __init__(self, drawn):
        self.frame = Frame(drawn.terms)
        self.marks = tuple(self.frame.mark_row())
        self.watched = Watched(drawn, self.frame)
        self.change_turns = {}
        self.known = {}
        self.number = None
        self.is_reached = False
        self.face = None
        self.turn_there = 0
        for low, high in cells_between(self.marks):
            for face in Cell(self.frame, low, high).faces():
                self.climb(face)
            if len(self.change_turns) > MOST_TURNS:
                raise TooMany("turns", MOST_TURNS)
        self.turns = telling_turns(self.change_turns)

    def climb(self, face):
        """Goes on to the peak at a face, if it is a greater one, or one that is reached."""
        key = self.watched.pixels_key(face)
        if key not in self.known:
            self.known[key] = row_peak(self.watched.turn_row(face, self.change_turns))
        worth, turn = self.known[key]
        low, high, under = self.watched.true_bounds(face)
        number = Ratio(worth * under + high, self.watched.scale * under)
        if self.number is None or number > self.number or number == self.number and low == high and not self.is_reached:
            self.number = number
            self.is_reached = low == high
            self.face = face
            self.turn_there = turn

    def place(self):
        """A view with this worth, or a point at which it is a limit: zoom and scroll."""
        if self.is_reached:
            return self.face.middle_view(self.turn_there)
        limits = [
            self.watched.shape.rise * zoom + self.watched.pull * moved for zoom, moved in self.face.corners()
        ]
        return self.face.corner_view(limits.index(max([int(limit) for limit in limits])), self.turn_there)
