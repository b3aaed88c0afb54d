"""Choices among zooms, roundings, numbers and claims."""

from allzooms.checks import is_zoom
from allzooms.claim_checks import check_claim, check_no_true, check_outermost
from allzooms.drawn import Claim
from allzooms.errors import BadClaim, BadNumber, BadRounding, BadZoom
from allzooms.ratios import Ratio, is_integer
from allzooms.roundings import Rounding
from allzooms.turns import Survey
from allzooms.views import cuts, holds_in_cell, judge, share


def check_made(claim):
    """Refuses what a function made, if it is no claim."""
    if not isinstance(claim, Claim):
        raise BadClaim("make")


def check_bounds(low, high):
    """Refuses what are no integers, and a high one below the low one."""
    if not is_integer(low):
        raise BadNumber(low)
    if not is_integer(high) or high < low:
        raise BadNumber(high)


def made_claim(make, number):
    """The claim that a function makes of a number."""
    claim = make(number)
    check_made(claim)
    return claim


def follows_claim(one, other):
    """The claim that one holds wherever the other one does."""
    return one | ~other


class Tight:
    """A paper: a number whose claim holds at all views, and, unless it is the lowest one, not that below it."""

    def __init__(self, number, always, broken):
        self.number = number
        self.always = always
        self.broken = broken

    def __eq__(self, other):
        if not isinstance(other, Tight) or self.number != other.number:
            return False
        return self.always == other.always and self.broken == other.broken


def offered(claim, zooms):
    """Those of some zooms at which a claim holds at every scroll, in their order."""
    check_claim(claim)
    if not isinstance(zooms, (list, tuple)):
        raise BadZoom(zooms)
    for zoom in zooms:
        if not is_zoom(zoom):
            raise BadZoom(zoom)
    check_outermost(claim)
    survey = Survey(claim)
    return tuple([place for place in [Ratio.of(zoom) for zoom in zooms] if holds_in_cell(survey, place)])


def best_rounding(make, *roundings):
    """The pair (index, share) of the first rounding whose claim has the greatest share."""
    if not roundings:
        raise BadRounding("none")
    for at, rounding in enumerate(roundings):
        if not isinstance(rounding, Rounding):
            raise BadRounding(at)
    claims = [make(rounding) for rounding in roundings]
    for claim in claims:
        check_made(claim)
    # Of several errors the one that is listed first is raised, whichever claim it is told of.
    for claim in claims:
        check_no_true(claim)
    for claim in claims:
        cuts(claim)
    best = None
    for at, claim in enumerate(claims):
        part = share(claim)
        if best is None or part > best[1]:
            best = (at, part)
    return best


def tightest(make, low, high):
    """A number whose claim holds, next to one whose claim does not: a Tight; None if not even high's claim holds."""
    check_bounds(low, high)
    always = judge(made_claim(make, high))
    if not always:
        return None
    number, below, broken = high, low - 1, None
    while number - below > 1:
        middle = (number + below) // 2
        found = judge(made_claim(make, middle))
        if found:
            number, always = middle, found
        else:
            below, broken = middle, found
    return Tight(number, always, broken)


def follows(one, other):
    """Whether one claim holds at each view at which the other one holds: an Always, or a Broken."""
    if not isinstance(one, Claim):
        raise BadClaim("one")
    if not isinstance(other, Claim):
        raise BadClaim("other")
    return judge(follows_claim(one, other))


def spared(*claims):
    """The ascending tuple of the indexes of those claims that follow from all the others together."""
    for at, claim in enumerate(claims):
        if not isinstance(claim, Claim):
            raise BadClaim(at)
    found = []
    for at, claim in enumerate(claims):
        others = Claim.of(True)
        for other in claims[:at] + claims[at + 1:]:
            others = others & other
        if judge(follows_claim(claim, others)):
            found.append(at)
    return tuple(found)
