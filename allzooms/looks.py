"""What a looker sees: a claim at the faces between given marks, in given turns. Nothing is searched for."""

from allzooms.claim_checks import atom_text
from allzooms.faces import Cell, cells_between
from allzooms.holding import settled
from allzooms.turns import Faced, Watched


def seen_row(shape, pixels, turns):
    """What a shape is at pixels in each of some turns, and how it grows in the last one.

    None if the members of a choice do not lead as they must [look_views.py].
    """
    base = shape.base(pixels)
    worths = [shape.slope * turn + base for turn in turns]
    growth = shape.slope
    for members, is_greater, count in shape.choices:
        rows = [seen_row(member, pixels, turns) for member in members]
        led = None if None in rows else led_row(rows, 1 if is_greater else -1, turns)
        if led is None:
            return None
        worths = [worth + chosen * count for worth, chosen in zip(worths, led[0])]
        growth = growth + led[1] * count
    return worths, growth


def led_row(rows, sign, turns):
    """The same of a choice by its members; the sign is -1 if the least one is chosen."""
    bounds = []
    for at in range(len(turns)):
        bounds.append(sign * max([int(worths[at] * sign) for worths, _ in rows]))
    for at in gaps(turns):
        if not any([worths[at:at + 2] == bounds[at:at + 2] for worths, _ in rows]):
            return None
    growth = sign * max([int(grown * sign) for _, grown in rows])
    if not any([worths[-1] == bounds[-1] and grown == growth for worths, grown in rows]):
        return None
    return bounds, growth


def gaps(turns):
    """The indexes of the turns behind which not just the next turn is told."""
    return [at for at in range(len(turns) - 1) if turns[at + 1] > turns[at] + 1]


class LookedAtom:
    """An atom, looked at in some turns."""

    def __init__(self, drawn, is_strict, frame, turns):
        self.told = atom_text(drawn, is_strict)
        self.is_strict = is_strict
        self.watched = Watched(drawn, frame)
        self.turns = turns
        self.known = {}

    def at_face(self, face):
        """Whether it holds at all of a face, turn by turn; None if these turns do not tell of all others."""
        more = self.watched.excess(face, self.is_strict)
        key = (more, self.watched.pixels_key(face))
        if key not in self.known:
            self.known[key] = self.truths_with(face.pixels, more)
        return self.known[key]

    def truths_with(self, pixels, more):
        """The same by the pixels of a face, and by what is to be added to the worths."""
        row = seen_row(self.watched.shape, pixels, self.turns)
        if row is None:
            return None
        truths = tuple([worth + more <= 0 for worth in row[0]])
        if row[1] > 0 if truths[-1] else row[1] < 0:
            return None
        if not self.watched.has_true_part:
            if any([truths[at] != truths[at + 1] for at in gaps(self.turns)]):
                return None
        return truths


class Look:
    """A claim, looked at in some turns."""

    def __init__(self, claim, frame, turns):
        self.claim = claim
        self.frame = frame
        self.turns = turns
        self.atom_rows = [LookedAtom(drawn, is_strict, frame, turns) for drawn, is_strict in claim.atoms]
        self.faced = Faced(self.atom_rows, frame)
        self.known = {}

    def holds_between(self, marks):
        """Whether the turns show that the claim holds at all faces between the marks."""
        for low, high in cells_between(marks):
            for rows in self.faced.told_at(Cell(self.frame, low, high).faces()):
                if rows not in self.known:
                    self.known[rows] = None not in rows and self.holds_in_turns(rows)
                if not self.known[rows]:
                    return False
        return True

    def holds_in_turns(self, rows):
        """Whether the claim holds in all turns, by the truths of its atoms."""
        for at in range(len(self.turns)):
            truths = {atom.told: row[at] for atom, row in zip(self.atom_rows, rows)}
            if not settled(self.claim, truths):
                return False
        return True
