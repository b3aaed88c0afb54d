"""Whether a paper tells rightly that two drawings are alike, or where they are not."""

from allzooms.checks import is_zoom
from allzooms.compared import Alike, Parted, check_drawings, edge_claim, edge_of, edges_of
from allzooms.look_views import shows_judge
from allzooms.ratios import Ratio, is_number
from allzooms.views import Always, cuts


def shows_alike(one, other, value):
    """Whether any value tells rightly whether two drawings are alike."""
    check_drawings(one, other)
    if isinstance(value, Parted):
        return is_right_parted(one, other, value)
    if not isinstance(value, Alike):
        return False
    edges = edges_of(one)
    claims = {edge: edge_claim(one, other, edge) for edge in edges}
    # Too many cuts are told whatever the papers are.
    for edge in edges:
        cuts(claims[edge])
    return are_right_papers(claims, value.papers)


def is_right_parted(one, other, parted):
    """Whether a Parted tells an edge and a view at which it is drawn unlike."""
    if parted.name not in one or parted.side not in ("left", "right"):
        return False
    if not is_zoom(parted.zoom) or not is_number(parted.scroll):
        return False
    edge = (parted.name, parted.side)
    zoom, scroll = Ratio.of(parted.zoom), Ratio.of(parted.scroll)
    return edge_of(one, edge).worth(zoom, scroll) != edge_of(other, edge).worth(zoom, scroll)


def are_right_papers(claims, papers):
    """Whether there is a dict with a right Always for each of the claims, and with nothing else."""
    if not isinstance(papers, dict) or len(papers) != len(claims):
        return False
    for edge, claim in claims.items():
        if edge not in papers or not isinstance(papers[edge], Always) or not shows_judge(claim, papers[edge]):
            return False
    return True
