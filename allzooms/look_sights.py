"""Whether papers tell rightly what is seen, and what cannot be. Nothing is searched for."""

from allzooms.checks import is_zoom
from allzooms.errors import BadSight
from allzooms.ratios import Ratio, is_integer, is_number
from allzooms.sight_rows import all_rows, indexes_at, stretch_ends, zooms_among
from allzooms.sights import Agreed, Seen, Unseen, check_scroll, check_sights

MOST_ROWS = 3


def check_sight_list(sights):
    """Refuses what is no list or tuple of sights."""
    if not isinstance(sights, (list, tuple)):
        raise BadSight("sights")
    check_sights(sights)


def shows_seen(sights, value):
    """Whether any value tells rightly whether all sights are seen at some view."""
    check_sight_list(sights)
    if isinstance(value, Seen):
        if not is_zoom(value.zoom) or not is_number(value.scroll):
            return False
        return len(indexes_at(sights, Ratio.of(value.zoom), Ratio.of(value.scroll))) == len(sights)
    return isinstance(value, Unseen) and are_barring(sights, value.rows)


def are_barring(sights, triples):
    """Whether a tuple of triples (index, side, weight) tells of rows that bar each other."""
    if not isinstance(triples, tuple) or len(triples) > MOST_ROWS:
        return False
    told = {(row.index, row.side): row for row in all_rows(sights)}
    rise, pull, bound, is_strict = 0, 0, Ratio(0), False
    for triple in triples:
        if not is_row_triple(triple) or (triple[0], triple[1]) not in told:
            return False
        # A row that is told once more is not found any more.
        row = told.pop((triple[0], triple[1]))
        rise = rise + row.rise * triple[2]
        pull = pull + row.pull * triple[2]
        bound = bound + row.bound * triple[2]
        is_strict = is_strict or row.is_strict
    return rise == 0 and pull == 0 and (bound > 0 or bound == 0 and is_strict)


def is_row_triple(value):
    """Whether any value is a triple (index, side, weight) that can tell of a row."""
    if not isinstance(value, tuple) or len(value) != 3 or not isinstance(value[1], str):
        return False
    if value[0] is not None and not is_integer(value[0]):
        return False
    return is_integer(value[2]) and value[2] > 0


def shows_most_seen(scroll, sights, value):
    """Whether any value tells rightly a zoom at which as many sights as can be are seen at a scroll."""
    check_scroll(scroll)
    check_sight_list(sights)
    if not isinstance(value, Agreed) or not is_zoom(value.zoom) or not are_marks(value.marks):
        return False
    place = Ratio.of(scroll)
    found = indexes_at(sights, Ratio.of(value.zoom), place)
    if not isinstance(value.indexes, tuple) or not all([is_integer(index) for index in value.indexes]):
        return False
    marks = [Ratio.of(mark) for mark in value.marks]
    if value.indexes != found or not are_among(stretch_ends(sights, place), marks):
        return False
    return all([len(indexes_at(sights, zoom, place)) <= len(found) for zoom in zooms_among(marks)])


def are_marks(marks):
    """Whether any value is an ascending tuple of zooms."""
    if not isinstance(marks, tuple) or not all([is_zoom(mark) for mark in marks]):
        return False
    return all([one < other for one, other in zip(marks, marks[1:])])


def are_among(numbers, marks):
    """Whether Ratios are all among other ones."""
    told = {(mark.over, mark.under): True for mark in marks}
    return all([(number.over, number.under) in told for number in numbers])
