"""The parts of which something drawn, or a claim, is made, and how often each one is there.

Rows are pairs (part, count). Parts are alike exactly if their texts, `told`, are.
"""

from allzooms.ratios import Ratio


class Term:
    """A rounded place: R(unit z + s) if it moves, R(unit z) if it does not."""

    def __init__(self, unit, moves, rounding):
        self.unit = unit
        self.moves = moves
        self.rounding = rounding
        self.told = f"edge {unit} {rounding}" if moves else f"size {unit} {rounding}"

    def pixel_at(self, zoom, scroll):
        """Where it is drawn at a view."""
        place = zoom * self.unit
        return self.rounding.drawn_at(place + scroll if self.moves else place)


class Choice:
    """The greater one, or the lesser one, of its members, things drawn, by the order of their texts."""

    def __init__(self, sign, members):
        self.sign = sign
        self.members = members
        inside = f" {sign} ".join([str(member) for member in members])
        self.told = f"( {inside} )"
        if sign == "|":
            self.growing = max([int(member.growth) for member in members])
        else:
            self.growing = min([int(member.growth) for member in members])
        self.moving = members[0].weight

    def worth(self, zoom, scroll):
        """What is drawn at a view."""
        worths = [member.worth(zoom, scroll) for member in self.members]
        return Ratio.highest(worths) if self.sign == "|" else Ratio.lowest(worths)


def rows_joined(rows, others, times):
    """Rows, and other ones so many times, with like parts as one; what is left out has the count 0."""
    parts = {}
    counts = {}
    for part, count in rows:
        parts[part.told] = part
        counts[part.told] = count
    for part, count in others:
        parts[part.told] = part
        counts[part.told] = counts.get(part.told, 0) + count * times
    return [(parts[told], counts[told]) for told in parts if counts[told] != 0]


def terms_in_order(terms):
    """Unlike terms: first those that move, by units, then by the texts of their roundings."""
    by_told = {}
    by_unit = {}
    for term in terms:
        if term.told not in by_told:
            by_told[term.told] = term
            place = (term.moves, term.unit)
            by_unit[place] = by_unit.get(place, []) + [term.told]
    ordered = []
    for moves in (True, False):
        for unit in sorted([int(unit) for is_moved, unit in by_unit if is_moved == moves]):
            for told in sorted([str(told) for told in by_unit[(moves, unit)]]):
                ordered.append(by_told[told])
    return ordered


def terms_by_order(rows):
    """Rows of terms, in the order of the terms."""
    counts = {term.told: count for term, count in rows}
    return [(term, counts[term.told]) for term in terms_in_order([term for term, count in rows])]


def choice_members(drawn, sign):
    """What a member of a choice stands for: its own members, if it is just such a choice, once."""
    is_bare = not drawn.amount and not drawn.term_rows and len(drawn.choice_rows) == 1
    if is_bare and drawn.choice_rows[0][1] == 1 and drawn.choice_rows[0][0].sign == sign:
        return drawn.choice_rows[0][0].members
    return (drawn,)


def in_text_order(by_told):
    """The tuple of the things in a dict by their texts, in the order of these."""
    return tuple([by_told[told] for told in sorted([str(told) for told in by_told])])


def choices_by_order(rows):
    """Rows of choices, in the order of their texts."""
    return list(in_text_order({choice.told: (choice, count) for choice, count in rows}))


def unlike_atoms(claim):
    """The unlike atoms of a claim, in the order of their texts."""
    by_told = {}
    waiting = [claim]
    while waiting:
        part = waiting.pop()
        if part.kind == "<" or part.kind == "<=":
            by_told[part.told] = part
        elif part.kind != "sure":
            waiting.extend(part.parts)
    return in_text_order(by_told)


def triples_of(terms):
    """What is told of terms: (unit, whether it moves, rounding)."""
    return tuple([(term.unit, term.moves, term.rounding) for term in terms])


def signed(count, told):
    """A member of a sum with its sign ahead; a count of 1 is not told."""
    sign = "+" if count > 0 else "-"
    return f"{sign} {told}" if abs(count) == 1 else f"{sign} {abs(count)} {told}"


def true_text(unit, moves):
    """The true part with its sign ahead: its first integer other than 0 is told above 0."""
    is_taken = unit < 0 or unit == 0 and moves < 0
    return f"- true {-unit} and {-moves}" if is_taken else f"+ true {unit} and {moves}"


def sum_text(amount, terms, true_part, choices):
    """The text of something drawn, by its parts in their order."""
    words = [signed(count, term.told) for term, count in terms]
    if true_part != (0, 0):
        words.append(true_text(true_part[0], true_part[1]))
    for choice, count in choices:
        words.append(signed(count, choice.told))
    if amount or not words:
        return " ".join([str(amount), *words])
    return " ".join(words).removeprefix("+ ")
