"""What holds at faces from turn to turn.

A story is a tuple of pairs (turn, truth): from this turn on, up to the next pair. A change is a turn in
which, at some face, an atom has another truth than in the turn ahead, or a choice other members that
are its greatest ones (its least ones).
"""

from math import lcm

from allzooms.bends import merged, truth_story, value_at
from allzooms.claim_checks import atom_text
from allzooms.errors import TooMany
from allzooms.faces import Cell, Frame
from allzooms.holding import settled
from allzooms.shapes import Shape, shape_row

MOST_TURNS = 200


def telling_turns(changes):
    """Turns that tell of all others: 0, those with a change, and the ones ahead of these."""
    turns = [0, *changes, *[turn - 1 for turn in changes]]
    return tuple(sorted(set([int(turn) for turn in turns])))


class Watched:
    """Something drawn, and what it is at faces."""

    def __init__(self, drawn, frame):
        self.scale = frame.divisor
        for number in drawn.numbers:
            self.scale = lcm(self.scale, number.under)
        self.shape = Shape(drawn, frame, self.scale)
        self.pull = drawn.true_part[1]
        self.has_true_part = drawn.has_true
        self.indexes = [frame.index_of(term) for term in drawn.unlike_terms]
        self.known = {}

    def turn_row(self, face, changes):
        """What it is at a face from turn to turn [bends.py], but for the true part in the first turn."""
        key = self.pixels_key(face)
        if key not in self.known:
            self.known[key] = shape_row(self.shape, face.pixels, changes)
        return self.known[key]

    def pixels_key(self, face):
        """What its terms are at a face."""
        pixels = face.pixels
        return tuple([pixels[index] for index in self.indexes])

    def true_bounds(self, face):
        """The least and the greatest limit of the true part at the corners of a face in the first turn.

        They are told as many times as the shape's worths, and both as many times as is told behind them.
        """
        low, high = face.bounds(self.shape.rise, self.pull)
        return low * self.scale, high * self.scale, face.cell.scale

    def excess(self, face, is_strict):
        """What is to be added to its row, so that the sum is at most 0 exactly if an atom of it holds at a face."""
        if not self.has_true_part:
            return 1 if is_strict else 0
        low, high, under = self.true_bounds(face)
        # What is not level only comes near to its bound: it is below 0 where the bound is 0.
        return high // under + 1 if is_strict and low == high else -(-high // under)


class Faced:
    """The atoms of a claim, and what they tell at faces; each atom has what it watches, and `at_face`."""

    def __init__(self, atom_rows, frame):
        self.atom_rows = atom_rows
        # Which atoms can tell another thing at each face, and which if a term is another one.
        self.always = [at for at, atom in enumerate(atom_rows) if atom.watched.has_true_part]
        self.by_term = [[] for _ in frame.rows]
        for at, atom in enumerate(atom_rows):
            if not atom.watched.has_true_part:
                for index in atom.watched.indexes:
                    self.by_term[index].append(at)

    def told_at(self, faces):
        """What the atoms tell at the faces of a cell, a tuple for each of these."""
        parts = []
        found = []
        for face in faces:
            if not found:
                parts = [atom.at_face(face) for atom in self.atom_rows]
            else:
                for at in self.due(face):
                    parts[at] = self.atom_rows[at].at_face(face)
            found.append(tuple(parts))
        return found

    def due(self, face):
        """The atoms that can tell another thing at a face than at the one ahead in its cell."""
        return [*self.always, *[at for index in face.stepped for at in self.by_term[index]]]


class FaceAtom:
    """An atom of a claim, and when it holds at faces."""

    def __init__(self, drawn, is_strict, frame, change_turns):
        self.told = atom_text(drawn, is_strict)
        self.is_strict = is_strict
        self.watched = Watched(drawn, frame)
        self.change_turns = change_turns
        self.known = {}

    def at_face(self, face):
        """Its story: when it holds at all views of a face."""
        row = self.watched.turn_row(face, self.change_turns)
        more = self.watched.excess(face, self.is_strict)
        key = (more, *row)
        if key not in self.known:
            self.known[key] = truth_story(row, more)
        return self.known[key]


class Survey:
    """A claim, and when it holds at faces; atoms with true parts stand in its outermost "and"."""

    def __init__(self, claim):
        self.claim = claim
        self.frame = Frame(claim.terms)
        self.change_turns = {}
        self.atom_rows = [
            FaceAtom(drawn, is_strict, self.frame, self.change_turns) for drawn, is_strict in claim.atoms
        ]
        self.faced = Faced(self.atom_rows, self.frame)
        self.known = {}

    def stories(self, faces):
        """When the claim holds at all views of each of the faces of a cell."""
        found = []
        for parts in self.faced.told_at(faces):
            if parts not in self.known:
                self.known[parts] = self.joined_story(parts)
            found.append(self.known[parts])
        return found

    def joined_story(self, stories):
        """The story of the claim by those of its atoms."""
        starts = {0: True}
        for story in stories:
            for turn, _ in story[1:]:
                starts[turn] = True
                self.change_turns[turn] = True
        found = []
        for start in sorted([int(turn) for turn in starts]):
            truths = {atom.told: value_at(story, start) for atom, story in zip(self.atom_rows, stories)}
            found.append((start, settled(self.claim, truths)))
        return merged(found)

    def cell_stories(self, low, high):
        """The faces of a cell of the frame with their stories."""
        faces = Cell(self.frame, low, high).faces()
        stories = self.stories(faces)
        if len(self.change_turns) > MOST_TURNS:
            raise TooMany("turns", MOST_TURNS)
        return list(zip(faces, stories))

    def last_change(self):
        """The last turn with a change, 0 without one."""
        return max([int(turn) for turn in self.change_turns], default=0)
