"""What is drawn, and claims about it."""

from allzooms.checks import check_view
from allzooms.drawn_words import claim_steps, drawn_steps
from allzooms.errors import BadClaim, BadDrawn, BadNumber, BadText, TooMany
from allzooms.parts import Choice, Term, choice_members, choices_by_order, in_text_order, rows_joined
from allzooms.parts import sum_text, terms_by_order, terms_in_order, triples_of, unlike_atoms
from allzooms.ratios import Ratio, is_integer, is_number
from allzooms.roundings import Rounding
from allzooms.words import split_words


def checked_term(unit, moves, rounding):
    """A term of any values."""
    if not is_integer(unit):
        raise BadDrawn("unit")
    if rounding is not None and not isinstance(rounding, Rounding):
        raise BadDrawn("rounding")
    return Term(unit, moves, Rounding.half_up() if rounding is None else rounding)


def as_drawn(value):
    """A Drawn, or the number that stands beside one, as a Drawn."""
    if isinstance(value, Drawn):
        return value
    if not is_number(value):
        raise BadDrawn("other")
    return Drawn.plain(value)


def within_most(drawn):
    """A Drawn, if it has not too many terms and choices."""
    if len(drawn.unlike_terms) > Drawn.MOST_TERMS:
        raise TooMany("terms", Drawn.MOST_TERMS)
    if drawn.choices_inside > Drawn.MOST_CHOICES:
        raise TooMany("choices", Drawn.MOST_CHOICES)
    return drawn


def summed(one, other, times):
    """One thing drawn and another one so many times, however many terms there are."""
    return Drawn(
        one.amount + other.amount * times,
        rows_joined(one.term_rows, other.term_rows, times),
        (one.true_part[0] + other.true_part[0] * times, one.true_part[1] + other.true_part[1] * times),
        rows_joined(one.choice_rows, other.choice_rows, times),
    )


def chosen(one, other, sign):
    """The greater one or the lesser one of two things drawn, one perhaps a number."""
    first, second = as_drawn(one), as_drawn(other)
    if first.has_true or second.has_true:
        raise BadDrawn("true")
    if first.weight != second.weight:
        raise BadDrawn("scroll")
    members = {}
    numbers = []
    for drawn in choice_members(first, sign) + choice_members(second, sign):
        if drawn.is_plain:
            numbers.append(drawn.amount)
        else:
            members[drawn.told] = drawn
    if numbers:
        best = Drawn.plain(Ratio.highest(numbers) if sign == "|" else Ratio.lowest(numbers))
        members[best.told] = best
    in_order = in_text_order(members)
    if len(in_order) == 1:
        return in_order[0]
    return within_most(Drawn(Ratio(0), [], (0, 0), [(Choice(sign, in_order), 1)]))


def atom_of(drawn, is_strict):
    """The claim that something drawn is at most 0, or below it."""
    if drawn.is_plain:
        return Claim.of(drawn.amount < 0 if is_strict else drawn.amount <= 0)
    return Claim("<" if is_strict else "<=", (drawn,))


def checked_atom(drawn, is_strict):
    """The same of what may have a scroll weight."""
    if drawn.weight != 0:
        raise BadClaim("scroll")
    return atom_of(drawn, is_strict)


def joined(one, other, kind):
    """Two claims, joined by "and" or by "or"."""
    if not isinstance(other, Claim):
        raise BadClaim("other")
    members = {}
    for claim in (one, other):
        if claim.kind == "sure":
            if claim.parts[0] == (kind == "or"):
                return claim
        else:
            parts = claim.parts if claim.kind == kind else (claim,)
            for part in parts:
                members[part.told] = part
    if not members:
        return one
    return members_joined(members, kind)


def members_joined(members, kind):
    """A claim of unlike members by their texts, in their order."""
    in_order = in_text_order(members)
    return in_order[0] if len(in_order) == 1 else Claim(kind, in_order)


def pushed(stack, step):
    """The things of a stack behind a step of a text [drawn_words.py]."""
    name = step[0]
    if name == "number":
        return [*stack, Drawn.plain(step[1])]
    if name == "edge":
        return [*stack, Drawn.edge(step[1], step[2])]
    if name == "size":
        return [*stack, Drawn.size(step[1], step[2])]
    if name == "true":
        return [*stack, Drawn.true(step[1], step[2])]
    if name == "sure":
        return [*stack, Claim.of(step[1])]
    if name == "times":
        return [*stack[:-1], stack[-1] * step[1]]
    if name == "atom":
        return [*stack[:-1], checked_atom(stack[-1], step[1])]
    below = stack[:-2]
    one, other = stack[-2], stack[-1]
    if name == "add":
        return [*below, one + other]
    if name == "|" or name == "or":
        return [*below, one | other]
    return [*below, one & other]


def made_of(steps, words):
    """What the steps of a text make, if it has just these words."""
    stack = []
    for step in steps:
        stack = pushed(stack, step)
    if str(stack[0]) != " ".join(words):
        raise BadText(0, len(words))
    return stack[0]


class Drawn:
    """Something drawn: a number, terms, a true part and choices, with their counts."""

    MOST_TERMS = 24
    MOST_CHOICES = 24

    def __init__(self, amount, term_rows, true_part, choice_rows):
        self.amount = amount
        self.term_rows = terms_by_order(term_rows)
        self.true_part = true_part
        self.choice_rows = choices_by_order(choice_rows)
        self.is_plain = not term_rows and not choice_rows and true_part == (0, 0)
        self.told = sum_text(amount, self.term_rows, true_part, self.choice_rows)
        members = [member for choice, _ in self.choice_rows for member in choice.members]
        inner = [term for member in members for term in member.unlike_terms]
        self.unlike_terms = terms_in_order([term for term, _ in self.term_rows] + inner)
        self.choices_inside = len(choice_rows) + sum([member.choices_inside for member in members])
        self.numbers = [amount] + [number for member in members for number in member.numbers]

    @staticmethod
    def edge(unit, rounding=None):
        """The term R(unit z + s)."""
        return Drawn(Ratio(0), [(checked_term(unit, True, rounding), 1)], (0, 0), [])

    @staticmethod
    def size(unit, rounding=None):
        """The term R(unit z); 0 for the unit 0."""
        term = checked_term(unit, False, rounding)
        return Drawn(Ratio(0), [(term, 1)] if unit else [], (0, 0), [])

    @staticmethod
    def true(unit, moves=0):
        """The true part unit z + moves s."""
        if not is_integer(unit):
            raise BadDrawn("unit")
        if not is_integer(moves):
            raise BadDrawn("moves")
        return Drawn(Ratio(0), [], (unit, moves), [])

    @staticmethod
    def plain(number):
        """A number."""
        if not is_number(number):
            raise BadDrawn("number")
        return Drawn(Ratio.of(number), [], (0, 0), [])

    @classmethod
    def read(cls, text):
        """What is drawn that has this text."""
        words = split_words(text)
        return made_of(drawn_steps(words, 0), words)

    def __add__(self, other):
        return within_most(summed(self, as_drawn(other), 1))

    def __radd__(self, other):
        return within_most(summed(as_drawn(other), self, 1))

    def __sub__(self, other):
        return within_most(summed(self, as_drawn(other), -1))

    def __rsub__(self, other):
        return within_most(summed(as_drawn(other), self, -1))

    def __neg__(self):
        return self * -1

    def __mul__(self, other):
        if not is_integer(other):
            raise BadNumber(other)
        return summed(Drawn.plain(0), self, other)

    def __rmul__(self, other):
        return self * other

    def __or__(self, other):
        return chosen(self, other, "|")

    def __ror__(self, other):
        return chosen(other, self, "|")

    def __and__(self, other):
        return chosen(self, other, "&")

    def __rand__(self, other):
        return chosen(other, self, "&")

    def __eq__(self, other):
        return isinstance(other, Drawn) and self.told == other.told

    def __str__(self):
        return str(self.told)

    def __call__(self, zoom, scroll=0):
        check_view(zoom, scroll)
        return self.worth(Ratio.of(zoom), Ratio.of(scroll))

    def worth(self, zoom, scroll):
        """What is drawn at a view of two Ratios."""
        total = self.amount + zoom * self.true_part[0] + scroll * self.true_part[1]
        for term, count in self.term_rows:
            total = total + term.pixel_at(zoom, scroll) * count
        for choice, count in self.choice_rows:
            total = total + choice.worth(zoom, scroll) * count
        return total

    @property
    def terms(self):
        """The unlike terms, as triples (unit, whether it moves, rounding)."""
        return triples_of(self.unlike_terms)

    @property
    def weight(self):
        """The scroll weight."""
        moved = sum([count for term, count in self.term_rows if term.moves])
        return moved + self.true_part[1] + sum([count * choice.moving for choice, count in self.choice_rows])

    @property
    def growth(self):
        """By how much more is drawn at z + 1 than at z, for all far zooms."""
        grown = sum([count * term.unit for term, count in self.term_rows])
        return grown + self.true_part[0] + sum([count * choice.growing for choice, count in self.choice_rows])

    @property
    def has_true(self):
        """Whether there is a true part."""
        return self.true_part != (0, 0)

    @property
    def is_whole(self):
        """Whether there is no true part, and no number but integers."""
        return not self.has_true and all([number.under == 1 for number in self.numbers])

    def at_most(self, other):
        """The claim that this is at most the other one."""
        return checked_atom(self - other, False)

    def below(self, other):
        """The claim that this is below the other one."""
        return checked_atom(self - other, True)

    def at_least(self, other):
        """The claim that this is at least the other one."""
        return checked_atom(as_drawn(other) - self, False)

    def above(self, other):
        """The claim that this is above the other one."""
        return checked_atom(as_drawn(other) - self, True)

    def equals(self, other):
        """The claim that this is the other one."""
        return self.at_most(other) & self.at_least(other)


class Claim:
    """A claim: sure, an atom, or claims joined by "and" or by "or"."""

    def __init__(self, kind, parts):
        self.kind = kind
        self.parts = parts
        if kind == "sure":
            self.told = "true" if parts[0] else "false"
        elif kind == "<=" or kind == "<":
            self.told = f"{parts[0]} {kind} 0"
        else:
            inside = f" {kind} ".join([str(part) for part in parts])
            self.told = f"[ {inside} ]"

    @staticmethod
    def of(truth):
        """The claim that is sure."""
        if not isinstance(truth, bool):
            raise BadClaim("truth")
        return Claim("sure", (truth,))

    @classmethod
    def read(cls, text):
        """The claim that has this text."""
        words = split_words(text)
        return made_of(claim_steps(words, 0), words)

    def __and__(self, other):
        return joined(self, other, "and")

    def __rand__(self, other):
        return joined(self, other, "and")

    def __or__(self, other):
        return joined(self, other, "or")

    def __ror__(self, other):
        return joined(self, other, "or")

    def __invert__(self):
        if self.kind == "sure":
            return Claim.of(not self.parts[0])
        if self.kind == "<=" or self.kind == "<":
            return atom_of(-self.parts[0], self.kind == "<=")
        opposites = {}
        for part in self.parts:
            opposite = ~part
            opposites[opposite.told] = opposite
        return members_joined(opposites, "or" if self.kind == "and" else "and")

    def __eq__(self, other):
        return isinstance(other, Claim) and self.told == other.told

    def __str__(self):
        return str(self.told)

    def __call__(self, zoom, scroll=0):
        check_view(zoom, scroll)
        return self.holds(Ratio.of(zoom), Ratio.of(scroll))

    def holds(self, zoom, scroll):
        """Whether it holds at a view of two Ratios."""
        if self.kind == "sure":
            return self.parts[0]
        if self.kind == "<":
            return self.parts[0].worth(zoom, scroll) < 0
        if self.kind == "<=":
            return self.parts[0].worth(zoom, scroll) <= 0
        for part in self.parts:
            if part.holds(zoom, scroll) == (self.kind == "or"):
                return self.kind == "or"
        return self.kind == "and"

    @property
    def atoms(self):
        """The unlike atoms, as pairs (drawn, whether it must be below 0), by their texts."""
        return tuple([(atom.parts[0], atom.kind == "<") for atom in unlike_atoms(self)])

    @property
    def terms(self):
        """The unlike terms of all atoms."""
        return triples_of(terms_in_order([term for drawn, _ in self.atoms for term in drawn.unlike_terms]))
