"""When a claim holds on a cell of zooms, from turn to turn.

A story is a list of pairs (turn, content): from this turn on, up to the next pair. The content is the
pair of a truth and of marks: what holds at the begin of the cell, and where in the cell this changes,
as triples (place, truth at it, truth right behind it), the places counted from the begin of the turn.
"""

from math import lcm

from allzooms.bends import at_most_zero, piece_ends, value_at
from allzooms.claim_checks import atom_text
from allzooms.errors import TooMany
from allzooms.grid import common_scale
from allzooms.rounds import changing
from allzooms.shapes import Shape, shape_row

MOST_MARKS = 3000


def settled(claim, truths):
    """Whether a claim holds, by the truths of its atoms; None if they leave it open."""
    if claim.kind == "sure":
        return claim.parts[0]
    if claim.kind == "<" or claim.kind == "<=":
        return truths[claim.told]
    is_or = claim.kind == "or"
    truth = not is_or
    for part in claim.parts:
        part_truth = settled(part, truths)
        if part_truth is None:
            truth = None
        elif part_truth == is_or:
            return is_or
    return truth


class Atom:
    """An atom of a claim, in integers."""

    def __init__(self, told, drawn, is_strict, grid, scale):
        self.told = told
        self.is_strict = is_strict
        self.shape = Shape(drawn, grid, scale)
        # How much the true part is more for one more of the grid's places.
        self.lift = self.shape.rise * (scale // grid.scale)

    def truth_changes(self, low, high, pixels):
        """Pairs (turn, truth) on a cell; for a truth that changes within, (slope, base) stand in its place."""
        changes = []
        row = shape_row(self.shape, pixels, None)
        for begin, end, slope, base in piece_ends(row):
            ends = (base + self.lift * low, base + self.lift * high)
            if ends[0] == ends[1]:
                changes.extend(at_most_zero(slope, ends[0] + (1 if self.is_strict else 0), begin, end))
            else:
                changes.extend(self.stretch_changes(begin, end, slope, base, ends))
        return changes

    def stretch_changes(self, begin, end, slope, base, ends):
        """The same on a stretch for one piece: true if no end is above 0, false if none is below."""
        truths = at_most_zero(slope, max(int(ends[0]), int(ends[1])), begin, end)
        falsehoods = at_most_zero(-slope, -min(int(ends[0]), int(ends[1])), begin, end)
        changes = []
        starts = {turn: True for turn, _ in truths + falsehoods}
        for start in sorted([int(turn) for turn in starts]):
            if value_at(truths, start):
                changes.append((start, True))
            elif value_at(falsehoods, start):
                changes.append((start, False))
            else:
                changes.append((start, (slope, base)))
        return changes


class Holding:
    """The atoms of a claim on the cells of a grid."""

    def __init__(self, claim, grid):
        self.claim = claim
        self.grid = grid
        atoms = claim.atoms
        scale = common_scale(grid, atoms)
        self.atoms_told = {}
        self.rises = 1
        for drawn, is_strict in atoms:
            told = atom_text(drawn, is_strict)
            self.atoms_told[told] = Atom(told, drawn, is_strict, grid, scale)
            self.rises = lcm(self.rises, self.atoms_told[told].shape.rise or 1)
        # Places at which truths change within a cell are integers, too, if counted like this.
        self.scale = scale * self.rises
        self.inner_marks = 0

    def story(self, cell):
        """The story of the claim on a cell."""
        low, high = self.grid.bounds(cell)
        pixels = self.grid.term_pixels(cell)
        by_turn = {}
        for told, atom in self.atoms_told.items():
            for start, state in atom.truth_changes(low, high, pixels):
                if start not in by_turn:
                    by_turn[start] = []
                by_turn[start].append((told, state))
        starts = sorted([int(turn) for turn in by_turn])
        states = {}
        story = []
        for start, end in zip(starts, [*starts[1:], None]):
            for told, state in by_turn[start]:
                states[told] = state
            self.go_on(story, states, start, end)
        return story or [(0, (settled(self.claim, {}), ()))]

    def go_on(self, story, states, begin, end):
        """Puts behind a story what holds in the turns from begin to ahead of end."""
        truths = {told: state if isinstance(state, bool) else None for told, state in states.items()}
        truth = settled(self.claim, truths)
        if truth is not None:
            self.put(story, begin, (truth, ()))
            return
        lines = {told: state for told, state in states.items() if truths[told] is None}
        if not any([slope != 0 for slope, _ in lines.values()]):
            self.put(story, begin, self.content(truths, lines, begin))
            return
        if end - begin > MOST_MARKS:
            raise TooMany("marks", MOST_MARKS)
        for turn in range(begin, end):
            content = self.content(truths, lines, turn)
            if self.put(story, turn, content):
                self.inner_marks = self.inner_marks + len(content[1])
            if self.inner_marks > MOST_MARKS:
                raise TooMany("marks", MOST_MARKS)

    def put(self, story, turn, content):
        """Puts a content behind a story, if it is another one; tells whether."""
        is_other = not story or story[-1][1] != content
        if is_other:
            story.append((turn, content))
        return is_other

    def content(self, truths, lines, turn):
        """What holds within a cell in a turn, with atoms that change their truths within."""
        places = {}
        for told, (slope, base) in lines.items():
            places[told] = -(slope * turn + base) * (self.rises // self.atoms_told[told].shape.rise)
        unlike = sorted(set([int(place) for place in places.values()]))
        found = []
        for at in range(2 * len(unlike) + 1):
            known = {told: truth for told, truth in truths.items() if truth is not None}
            for told, place in places.items():
                known[told] = self.truth_beside(told, 2 * unlike.index(place) + 1, at)
            found.append(settled(self.claim, known))
        marks = [(place, found[2 * at + 1], found[2 * at + 2]) for at, place in enumerate(unlike)]
        return found[0], tuple(changing(marks, found[0]))

    def truth_beside(self, told, change, at):
        """Whether an atom holds in a piece of a cell, if it changes its truth in another piece of it."""
        atom = self.atoms_told[told]
        if at == change:
            return not atom.is_strict
        return (at < change) == (atom.shape.rise > 0)
