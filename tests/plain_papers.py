"""Whether papers are right, reckoned by the tests themselves from the words of the document, face by face."""

from fractions import Fraction

from allzooms.ratios import Ratio
from tests.plain_claims import own_terms
from tests.plain_faces import all_shapes, cut_list, divisor, least_unit, placed, shapes_of_cell
from tests.reckon import fraction, rounded


class Seen:
    """Something drawn at a face in a turn: its number but for the true part, and how it grows from turn to turn."""

    def __init__(self, terms):
        self.terms = terms
        self.least = least_unit(terms)
        self.per_turn = Fraction(1, divisor(terms))

    def number(self, drawn, view):
        """What is drawn but for a true part of the outermost sum."""
        total = fraction(drawn.amount)
        for term, count in drawn.term_rows:
            place = term.unit * view[0] + (view[1] if term.moves else 0)
            total += count * rounded((fraction(term.rounding.threshold), term.rounding.is_from), place)
        for choice, count in drawn.choice_rows:
            total += count * self.bound(choice)([self.number(member, view) for member in choice.members])
        return total

    def bound(self, choice):
        return max if choice.sign == "|" else min

    def growth(self, drawn, view):
        """How it grows in the turn of a view; None if some choice has no member that leads."""
        total = self.per_turn * (drawn.true_part[0] - drawn.true_part[1] * self.least)
        for term, count in drawn.term_rows:
            total += count * self.per_turn * (term.unit - (self.least if term.moves else 0))
        for choice, count in drawn.choice_rows:
            rows = [(self.number(member, view), self.growth(member, view)) for member in choice.members]
            bound = self.bound(choice)(number for number, _ in rows)
            if any(grown is None for _, grown in rows):
                return None
            most = self.bound(choice)(grown for _, grown in rows)
            if (bound, most) not in rows:
                return None
            total += count * most
        return total

    def choices(self, drawn):
        """All choices in something drawn, the inner ones too."""
        for choice, _ in drawn.choice_rows:
            yield choice
            for member in choice.members:
                yield from self.choices(member)

    def leaders(self, choice, view):
        """The indexes of the members that are the greatest ones (the least ones)."""
        numbers = [self.number(member, view) for member in choice.members]
        return {at for at, number in enumerate(numbers) if number == self.bound(choice)(numbers)}

    def atom_holds(self, drawn, is_strict, face):
        """Whether an atom holds at all views of a face."""
        level = self.number(drawn, face.view)
        limits = [level + drawn.true_part[0] * zoom + drawn.true_part[1] * scroll for zoom, scroll in face.corners]
        if max(limits) == 0 and is_strict:
            return min(limits) < 0
        return max(limits) <= 0

    def claim_holds(self, claim, face):
        if claim.kind == "sure":
            return claim.parts[0]
        if claim.kind in ("<=", "<"):
            return self.atom_holds(claim.parts[0], claim.kind == "<", face)
        return (all if claim.kind == "and" else any)(self.claim_holds(part, face) for part in claim.parts)

    def face_is_right(self, claim, faces, turns):
        """What stands under 2. to 4., for one face in the turns."""
        if not all(self.claim_holds(claim, face) for face in faces):
            return False
        for at, (p, q) in enumerate(zip(turns, turns[1:])):
            if q > p + 1:
                for drawn, is_strict in claim.atoms:
                    for choice in self.choices(drawn):
                        if not self.leaders(choice, faces[at].view) & self.leaders(choice, faces[at + 1].view):
                            return False
                    if not drawn.has_true:
                        if self.atom_holds(drawn, is_strict, faces[at]) != self.atom_holds(drawn, is_strict, faces[at + 1]):
                            return False
        for drawn, is_strict in claim.atoms:
            grown = self.growth(drawn, faces[-1].view)
            if grown is None or (grown > 0 if self.atom_holds(drawn, is_strict, faces[-1]) else grown < 0):
                return False
        return True


def plain_changes(claim, turns):
    """The turns, up to so many, in which an atom has another truth or a choice other leaders than a turn ahead."""
    terms = own_terms(claim)
    seen = Seen(terms)
    found = set()
    for shapes in all_shapes(frozenset(terms)):
        rows = [placed(terms, shapes, turn) for turn in range(turns)]
        for faces in zip(*rows):
            for drawn, is_strict in claim.atoms:
                states = [(seen.atom_holds(drawn, is_strict, face), [seen.leaders(choice, face.view) for choice in seen.choices(drawn)])
                          for face in faces]
                found |= {turn for turn in range(1, turns) if states[turn] != states[turn - 1]}
    return found


def is_ascending(values, kind, least, most):
    if type(values) is not tuple or not least <= len(values) <= most:
        return False
    return all(type(value) is kind for value in values) and all(one < other for one, other in zip(values, values[1:]))


def always_is_right(claim, marks, turns):
    """Whether an Always of a claim is right."""
    if not is_ascending(marks, Ratio, 2, 3000) or not is_ascending(turns, int, 1, 401):
        return False
    terms = own_terms(claim)
    places = [fraction(mark) for mark in marks]
    if places[0] != 0 or places[-1] != Fraction(1, divisor(terms)) or turns[0] != 0:
        return False
    if any(low < cut < high for low, high in zip(places, places[1:]) for cut in cut_list(terms)):
        return False
    seen = Seen(terms)
    for low, high in zip(places, places[1:]):
        for bounds in ((low, high), (high, high)):
            shapes = shapes_of_cell(terms, *bounds)
            rows = [placed(terms, shapes, turn) for turn in turns]
            if not all(seen.face_is_right(claim, faces, turns) for faces in zip(*rows)):
                return False
    return True
