"""What is drawn near a point."""

from math import lcm

from allzooms.ratios import Ratio


def ways_off(units, is_view):
    """The directions (zoom, scroll) in which unlike faces can lie around a point.

    Edges of these units step there. A point that is a view is a face, too, and has views on all sides.
    """
    ahead = [(1, -unit) for unit in units]
    slopes = sorted([int(unit) for unit in units])
    ahead.extend([(2, -(one + other)) for one, other in zip(slopes, slopes[1:])])
    if slopes:
        ahead.extend([(1, -slopes[-1] - 1), (1, -slopes[0] + 1)])
    else:
        ahead.append((1, 0))
    if not is_view:
        return ahead
    return [(0, 0), (0, 1), (0, -1), *ahead, *[(-over, -aside) for over, aside in ahead]]


def pixels_off(terms, zoom, scroll, off):
    """What terms are drawn at near a point, in a direction: a dict by their texts."""
    pixels = {}
    for term in terms:
        place = zoom * term.unit + (scroll if term.moves else 0)
        side = term.unit * off[0] + (off[1] if term.moves else 0)
        if side == 0:
            pixels[term.told] = term.rounding.drawn_at(place)
        else:
            pixels[term.told] = term.rounding.behind(place) if side > 0 else term.rounding.before(place)
    return pixels


def worth_by(drawn, pixels):
    """What is drawn but for a true part, if terms are drawn at such pixels."""
    total = drawn.amount
    for term, count in drawn.term_rows:
        total = total + pixels[term.told] * count
    for choice, count in drawn.choice_rows:
        worths = [worth_by(member, pixels) for member in choice.members]
        total = total + (Ratio.highest(worths) if choice.sign == "|" else Ratio.lowest(worths)) * count
    return total


def near_worths(drawn, zoom, scroll):
    """The ascending tuple of the unlike numbers to which the worths of views near a point come."""
    units = {}
    for term in drawn.unlike_terms:
        if term.moves and term.rounding.is_step(zoom * term.unit + scroll):
            units[term.unit] = True
    true_part = zoom * drawn.true_part[0] + scroll * drawn.true_part[1]
    numbers = []
    for off in ways_off(list(units), zoom > 0):
        numbers.append(worth_by(drawn, pixels_off(drawn.unlike_terms, zoom, scroll, off)) + true_part)
    scale = 1
    for number in numbers:
        scale = lcm(scale, number.under)
    counted = sorted(set([int(number.over * (scale // number.under)) for number in numbers]))
    return tuple([Ratio(number, scale) for number in counted])
