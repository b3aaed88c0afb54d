"""What a claim is worth at all views."""

from math import lcm

from allzooms.bends import merged, value_at
from allzooms.checks import is_zoom
from allzooms.claim_checks import check_claim, check_no_true, check_outermost
from allzooms.errors import BadZoom
from allzooms.faces import Cell, Frame, cells_between
from allzooms.ratios import Ratio
from allzooms.turn_marks import TurnMarks
from allzooms.turns import Survey, telling_turns


def true_at(drawn, view):
    """The true part of something drawn at a view."""
    zoom, scroll = view
    return zoom * drawn.true_part[0] + scroll * drawn.true_part[1]


def broken_view(claim, face, turn):
    """A view of a face in a turn at which a claim does not hold, if it does not hold at all of them."""
    middle = face.middle_view(turn)
    if not claim.holds(middle[0], middle[1]):
        return middle
    for drawn, _ in claim.atoms:
        if drawn.has_true:
            found = view_above(drawn, face, turn, middle)
            if found is not None:
                return found
    return None


def view_above(drawn, face, turn, middle):
    """A view of a face at which something drawn is above 0, though it is not in the middle; None without one."""
    low = drawn.worth(middle[0], middle[1])
    for at in range(len(face.corners())):
        corner = face.corner_view(at, turn)
        high = low + true_at(drawn, corner) - true_at(drawn, middle)
        if high > 0:
            # Halfway from where it is 0 to the corner.
            part = (1 - low.divided(high - low)).divided(2)
            return between(middle[0], corner[0], part), between(middle[1], corner[1], part)
    return None


def between(one, other, part):
    """What lies between two numbers, by a part of the way."""
    return one + (other - one) * part


def joined_stories(stories, is_all):
    """When all of some stories are true, or some of them."""
    starts = {turn: True for story in stories for turn, _ in story}
    pairs = []
    for start in sorted([int(turn) for turn in starts]):
        truths = [value_at(story, start) for story in stories]
        pairs.append((start, all(truths) if is_all else any(truths)))
    return merged(pairs)


def zooms_of(claim, is_all):
    """The Zooms at which a claim holds at every scroll, or at some scroll."""
    check_claim(claim)
    check_no_true(claim)
    survey = Survey(claim)
    marks = survey.frame.mark_row()
    stories = []
    for low, high in cells_between(marks):
        unlike = {story: True for _, story in survey.cell_stories(low, high)}
        stories.append([(turn, (truth, ())) for turn, truth in joined_stories(list(unlike), is_all)])
    scale = 1
    for mark in marks:
        scale = lcm(scale, mark.under)
    points = [mark.over * (scale // mark.under) for mark in marks[1:]]
    return TurnMarks(points, scale, survey.frame.divisor, stories).as_zooms(survey.last_change())


def holds_in_cell(survey, place):
    """Whether the claim of a survey holds at a zoom, a Ratio, at every scroll."""
    stories = survey.stories(Cell(survey.frame, place, place).faces())
    return all([story[0][1] for story in stories])


class Verdict:
    """The base of papers that tell whether something holds."""


class Always(Verdict):
    """A paper: a claim holds at all views, as marks and turns tell."""

    def __init__(self, marks, turns):
        self.marks = marks
        self.turns = turns

    def __eq__(self, other):
        return isinstance(other, Always) and self.marks == other.marks and self.turns == other.turns


class Broken(Verdict):
    """A paper, a false one: a view at which a claim does not hold."""

    def __init__(self, zoom, scroll):
        self.zoom = zoom
        self.scroll = scroll

    def __eq__(self, other):
        return isinstance(other, Broken) and self.zoom == other.zoom and self.scroll == other.scroll

    def __bool__(self):
        return False


def turn_of(claim):
    """The turn of a claim."""
    check_claim(claim)
    return Frame(claim.terms).turn


def cuts(claim):
    """The ascending cuts of a claim."""
    check_claim(claim)
    return tuple(Frame(claim.terms).cuts())


def judge(claim):
    """Whether a claim holds at all views: an Always, or a Broken."""
    check_claim(claim)
    check_outermost(claim)
    survey = Survey(claim)
    marks = survey.frame.mark_row()
    broken = None
    for low, high in cells_between(marks):
        for face, story in survey.cell_stories(low, high):
            falls = [turn for turn, truth in story if not truth]
            if falls and broken is None:
                broken = (face, falls[0])
    if broken is None:
        return Always(tuple(marks), telling_turns(survey.change_turns))
    zoom, scroll = broken_view(claim, broken[0], broken[1])
    return Broken(zoom, scroll)


def holds_at(claim, zoom):
    """Whether a claim holds at a zoom at every scroll."""
    check_claim(claim)
    if not is_zoom(zoom):
        raise BadZoom(zoom)
    check_outermost(claim)
    return holds_in_cell(Survey(claim), Ratio.of(zoom))


def zooms_always(claim):
    """The Zooms at which a claim holds at every scroll."""
    return zooms_of(claim, True)


def zooms_ever(claim):
    """The Zooms at which a claim holds at some scroll."""
    return zooms_of(claim, False)


def share(claim):
    """The share of the views of a turn behind all changes at which a claim holds."""
    check_claim(claim)
    check_no_true(claim)
    survey = Survey(claim)
    total = Ratio(0)
    for low, high in cells_between(survey.frame.mark_row()):
        rows = survey.cell_stories(low, high)
        area = sum([face.area() for face, story in rows if story[-1][1]])
        scale = rows[0][0].cell.scale
        total = total + Ratio(area, 2 * scale * scale)
    return total.divided(survey.frame.turn)
