"""Which claims can be judged."""

from allzooms.drawn import Claim
from allzooms.errors import BadClaim


def check_claim(claim):
    """Refuses what is no claim."""
    if not isinstance(claim, Claim):
        raise BadClaim("claim")


def check_outermost(claim):
    """Refuses a claim if an atom with a true part is no member of its outermost "and"."""
    members = claim.parts if claim.kind == "and" else (claim,)
    told = {member.told: True for member in members}
    for drawn, is_strict in claim.atoms:
        if drawn.has_true and atom_text(drawn, is_strict) not in told:
            raise BadClaim("true")


def check_no_true(claim):
    """Refuses a claim with a true part."""
    if any([drawn.has_true for drawn, _ in claim.atoms]):
        raise BadClaim("true")


def atom_text(drawn, is_strict):
    """The text of an atom."""
    return f"{drawn} < 0" if is_strict else f"{drawn} <= 0"
