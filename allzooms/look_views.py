"""Whether a paper tells rightly that a claim holds at all views, or at which one it does not."""

from allzooms.claim_checks import check_claim, check_outermost
from allzooms.faces import Frame
from allzooms.looks import Look
from allzooms.ratios import Ratio, is_integer
from allzooms.views import Always, Broken

MOST_MARKS = 3000
MOST_TURNS = 401


def shows_judge(claim, value):
    """Whether any value is a right Verdict of a claim."""
    check_claim(claim)
    check_outermost(claim)
    if isinstance(value, Broken):
        return is_right_broken(claim, value)
    frame = Frame(claim.terms)
    cuts = frame.cuts()
    if not isinstance(value, Always) or not are_marks(value.marks, cuts, frame.turn) or not are_turns(value.turns):
        return False
    return Look(claim, frame, value.turns).holds_between(value.marks)


def is_right_broken(claim, broken):
    """Whether a Broken tells a view at which a claim does not hold."""
    zoom, scroll = broken.zoom, broken.scroll
    if not isinstance(zoom, Ratio) or not isinstance(scroll, Ratio) or zoom <= 0:
        return False
    return not claim.holds(zoom, scroll)


def are_marks(marks, cuts, turn):
    """Whether marks part a turn, with all cuts among them."""
    if not isinstance(marks, tuple) or not 2 <= len(marks) <= MOST_MARKS:
        return False
    if not all([isinstance(mark, Ratio) for mark in marks]):
        return False
    if any([one >= other for one, other in zip(marks, marks[1:])]):
        return False
    if marks[0] != 0 or marks[-1] != turn:
        return False
    told = {(mark.over, mark.under): True for mark in marks}
    return all([(cut.over, cut.under) in told for cut in cuts])


def are_turns(turns):
    """Whether turns ascend from 0 on."""
    if not isinstance(turns, tuple) or not 1 <= len(turns) <= MOST_TURNS:
        return False
    if not all([is_integer(turn) for turn in turns]) or turns[0] != 0:
        return False
    return all([one < other for one, other in zip(turns, turns[1:])])
