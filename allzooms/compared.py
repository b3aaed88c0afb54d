"""Two drawings, compared edge by edge, and rows of equal boxes."""

from allzooms.drawn import atom_of, summed
from allzooms.errors import BadDrawing, BadNumber, BadRounding, Unlike
from allzooms.most import greatest, least
from allzooms.ratios import is_integer
from allzooms.roundings import Rounding
from allzooms.views import judge
from allzooms.ways import Drawing


def check_drawings(one, other):
    """Refuses what are no two drawings with the same names."""
    if not isinstance(one, Drawing):
        raise BadDrawing("one")
    if not isinstance(other, Drawing):
        raise BadDrawing("other")
    if sorted([str(name) for name in one.names]) != sorted([str(name) for name in other.names]):
        raise Unlike("names")


def edges_of(drawing):
    """The edges of a drawing, pairs (name, side), in their order."""
    return [(name, side) for name in drawing.names for side in ("left", "right")]


def edge_of(drawing, edge):
    """What is drawn at an edge."""
    name, side = edge
    return drawing.left(name) if side == "left" else drawing.right(name)


def edge_less(one, other, edge):
    """The edge of one drawing less that of the other one, however many terms both have together."""
    return summed(edge_of(one, edge), edge_of(other, edge), -1)


def edge_claim(one, other, edge):
    """The claim that an edge of one drawing equals that of the other one."""
    less = edge_less(one, other, edge)
    return atom_of(less, False) & atom_of(-less, False)


def worth_range(drawn):
    """The pair of the least and the greatest worth, two integers; None if one of both is missing."""
    high = greatest(drawn)
    low = least(drawn)
    return (low.number.over, high.number.over) if low and high else None


def check_row(rounding, n, fewest):
    """Refuses what is no rounding, and what is no number of boxes."""
    if not isinstance(rounding, Rounding):
        raise BadRounding("rounding")
    if not is_integer(n) or n < fewest or n > 10 ** 30:
        raise BadNumber(n)


def row_bounds(rounding, n):
    """The least and the greatest number of n R(x) - R(n x), which only falls on the turn on which R(x) is 0."""
    end = rounding.threshold * n
    if rounding.is_from:
        return -rounding.before(end), n - rounding.drawn_at(end)
    return -rounding.drawn_at(end), n - rounding.behind(end)


class Alike:
    """A paper: all edges are drawn alike at all views, as the paper for each of them tells."""

    def __init__(self, papers):
        self.papers = papers

    def __eq__(self, other):
        return isinstance(other, Alike) and self.papers == other.papers


class Parted:
    """A paper, a false one: an edge, and a view at which it is drawn unlike."""

    def __init__(self, name, side, zoom, scroll):
        self.name = name
        self.side = side
        self.zoom = zoom
        self.scroll = scroll

    def __eq__(self, other):
        if not isinstance(other, Parted) or self.name != other.name or self.side != other.side:
            return False
        return self.zoom == other.zoom and self.scroll == other.scroll

    def __bool__(self):
        return False


def alike(one, other):
    """Whether two drawings are drawn alike at all views: an Alike, or a Parted."""
    check_drawings(one, other)
    papers = {}
    for edge in edges_of(one):
        found = judge(edge_claim(one, other, edge))
        if not found:
            name, side = edge
            return Parted(name, side, found.zoom, found.scroll)
        papers[edge] = found
    return Alike(papers)


def differences(one, other):
    """A dict from the edges to the least and the greatest difference of two drawings there."""
    check_drawings(one, other)
    known = {}
    found = {}
    for edge in edges_of(one):
        less = edge_less(one, other, edge)
        if less.told not in known:
            known[less.told] = worth_range(less)
        found[edge] = known[less.told]
    return found


def row_range(rounding, n):
    """The pair (least, greatest) of n R(x) - R(n x) for all x above 0."""
    check_row(rounding, n, 1)
    return row_bounds(rounding, n)


def moved_row_range(rounding, n):
    """The pair (least, greatest) of R(s) + n R(x) - R(n x + s) for all x above 0 and all s."""
    check_row(rounding, n, 0)
    # The begin of the row is like one more box.
    return row_bounds(rounding, n + 1)
