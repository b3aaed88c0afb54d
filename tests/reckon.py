"""A plain reckoning of the tests' own, from the words of the document: worths and truths as fractions.

Things are nested tuples: ("edge", unit, rounding), ("size", unit, rounding), ("number", worth),
("true", unit, moves), ("sum", ((count, thing), ..)), ("|", things), ("&", things); claims are
("<=", thing), ("<", thing), ("and", claims), ("or", claims). A rounding is (threshold, is_from).
"""

from fractions import Fraction

from allzooms.drawn import Drawn
from allzooms.ratios import Ratio
from allzooms.roundings import Rounding


def ratio(value):
    value = Fraction(value)
    return Ratio(value.numerator, value.denominator)


def fraction(value):
    return Fraction(value.over, value.under) if isinstance(value, Ratio) else Fraction(value)


def rounded(rounding, place):
    """The pixel of a place."""
    return rounded_part(rounding, place.numerator, place.denominator)


def rounded_part(rounding, over, under):
    """The pixel of over / under, in integers, as fractions take long."""
    threshold, is_from = rounding
    whole = over // under
    left, bound = (over - whole * under) * threshold.denominator, threshold.numerator * under
    return whole + (1 if (left >= bound if is_from else left > bound) else 0)


def worth(thing, zoom, scroll):
    """What is drawn at a view."""
    kind = thing[0]
    if kind == "edge":
        over, under = thing[1] * zoom.numerator, zoom.denominator
        return rounded_part(thing[2], over * scroll.denominator + scroll.numerator * under, under * scroll.denominator)
    if kind == "size":
        return rounded_part(thing[2], thing[1] * zoom.numerator, zoom.denominator)
    if kind == "number":
        return thing[1].numerator if thing[1].denominator == 1 else thing[1]
    if kind == "true":
        return thing[1] * zoom + thing[2] * scroll
    if kind == "sum":
        return sum([count * worth(part, zoom, scroll) for count, part in thing[1]])
    bound = max if kind == "|" else min
    return bound([worth(part, zoom, scroll) for part in thing[1]])


def holds(claim, zoom, scroll):
    """Whether a claim holds at a view."""
    if claim[0] == "<=":
        return worth(claim[1], zoom, scroll) <= 0
    if claim[0] == "<":
        return worth(claim[1], zoom, scroll) < 0
    join = all if claim[0] == "and" else any
    return join(holds(part, zoom, scroll) for part in claim[1])


def weight(thing):
    """The scroll weight."""
    kind = thing[0]
    if kind == "sum":
        return sum(count * weight(part) for count, part in thing[1])
    if kind in ("|", "&"):
        return weight(thing[1][0])
    return {"edge": 1, "size": 0, "number": 0}.get(kind, thing[-1])


def growth(thing):
    """By how much more is drawn one whole zoom farther, far away."""
    kind = thing[0]
    if kind == "sum":
        return sum(count * growth(part) for count, part in thing[1])
    if kind in ("|", "&"):
        return (max if kind == "|" else min)(growth(part) for part in thing[1])
    return 0 if kind == "number" else thing[1]


def made(thing):
    """The thing as the package draws it."""
    kind = thing[0]
    if kind in ("edge", "size"):
        rounding = Rounding(ratio(thing[2][0]), thing[2][1])
        return Drawn.edge(thing[1], rounding) if kind == "edge" else Drawn.size(thing[1], rounding)
    if kind == "number":
        return Drawn.plain(ratio(thing[1]))
    if kind == "true":
        return Drawn.true(thing[1], thing[2])
    if kind == "sum":
        total = Drawn.plain(0)
        for count, part in thing[1]:
            total = total + made(part) * count
        return total
    total = made(thing[1][0])
    for part in thing[1][1:]:
        total = total | made(part) if kind == "|" else total & made(part)
    return total


def made_claim(claim):
    """The claim as the package makes it."""
    if claim[0] == "<=":
        return made(claim[1]).at_most(0)
    if claim[0] == "<":
        return made(claim[1]).below(0)
    total = made_claim(claim[1][0])
    for part in claim[1][1:]:
        total = total & made_claim(part) if claim[0] == "and" else total | made_claim(part)
    return total


class Drawing:
    """Things and claims by chance, from a source of the test's own."""

    def __init__(self, source):
        self.source = source
        self.units = [source.randint(-4, 6) for _ in range(4)]
        if source.random() < 0.2:
            self.units = [3 * unit for unit in self.units]
        self.roundings = [self.rounding() for _ in range(3)]

    def rounding(self):
        under = self.source.choice((1, 2, 3, 4, 5, 7))
        threshold = Fraction(self.source.randint(0, under), under)
        if threshold in (0, 1):
            return threshold, threshold == 1
        return threshold, self.source.random() < 0.5

    def term(self):
        kind = self.source.choice(("edge", "size"))
        return kind, self.source.choice(self.units), self.source.choice(self.roundings)

    def thing(self, depth=2, has_true=True, wanted=0, is_level=False):
        """A thing of a scroll weight; a level one does not grow."""
        source = self.source
        parts = [(source.choice((-3, -2, -1, 1, 2)), self.term()) for _ in range(source.randint(0, 3))]
        if source.random() < 0.7:
            parts.append((1, ("number", Fraction(source.randint(-6, 6), source.choice((1, 1, 2, 3))))))
        if has_true and source.random() < 0.5:
            parts.append((1, ("true", source.randint(-3, 3), source.randint(-1, 1))))
        for _ in range(source.randint(0, 2) if depth else 0):
            inner = source.choice((0, 0, 0, 1))
            members = tuple(self.thing(depth - 1, False, inner) for _ in range(source.choice((2, 2, 3))))
            parts.append((source.choice((-2, -1, 1, 1)), (source.choice("|&"), members)))
        less = wanted - weight(("sum", tuple(parts)))
        if less:
            parts.append((1, ("true", 0, less)) if has_true and source.random() < 0.3 else (less, self.term_moving()))
        fall = -growth(("sum", tuple(parts)))
        if is_level and fall:
            parts.append((1, ("true", fall, 0)) if has_true and source.random() < 0.3
                         else (fall, ("size", 1, source.choice(self.roundings))))
        return "sum", tuple(parts)

    def term_moving(self):
        return "edge", self.source.choice(self.units), self.source.choice(self.roundings)

    def claim(self, depth=2):
        if depth == 0 or self.source.random() < 0.3:
            is_level = self.source.random() < 0.5
            return self.source.choice(("<=", "<")), self.thing(self.source.choice((0, 1, 2)),
                                                                self.source.random() < 0.5, 0, is_level)
        return self.source.choice(("and", "or")), tuple(self.claim(depth - 1) for _ in range(self.source.choice((2, 3))))
