"""Claims by chance that can be judged, and what the tests themselves reckon of them, face by face."""

from fractions import Fraction

from tests.plain_faces import all_faces, divisor, faces_of_cell
from tests.reckon import Drawing, fraction, growth, holds, made, worth

FAR = 10 ** 30


def own_terms(claim):
    """The terms of a claim, or of something drawn, as the plain reckoning has them."""
    return {("edge" if moves else "size", unit, (fraction(kind.threshold), kind.is_from))
            for unit, moves, kind in claim.terms}


def small_drawing(source):
    """What draws things with few cuts."""
    drawing = Drawing(source)
    drawing.units = [source.randint(-2, 3) for _ in range(3)]
    if source.random() < 0.2:
        drawing.units = [3 * unit + 1 for unit in drawing.units]
    if source.random() < 0.4:
        drawing.roundings = drawing.roundings[:1]
    return drawing


def drawn_thing(drawing, has_true, is_level):
    """A thing of the scroll weight 0; at times with choices of choices."""
    return drawing.thing(drawing.source.choice((0, 0, 0, 1, 1, 1, 1, 2)), has_true, 0, is_level)


def claim_tree(drawing, depth):
    """A claim without true parts."""
    source = drawing.source
    if depth == 0 or source.random() < 0.35:
        return source.choice(("<=", "<")), drawn_thing(drawing, False, source.random() < 0.7)
    return source.choice(("and", "or")), tuple(claim_tree(drawing, depth - 1) for _ in range(source.choice((2, 2, 3))))


def lowered(thing, number):
    """A thing less a number."""
    return "sum", ((1, thing), (1, ("number", -Fraction(number))))


def tight_atom(drawing, has_true):
    """An atom whose bound is the greatest worth of the first turns, or near to it."""
    source = drawing.source
    thing = drawn_thing(drawing, has_true, True)
    bound = plain_bound(thing, range(3)) + source.choice((0, 0, 0, Fraction(1, 7), -Fraction(1, 7), -1, 1))
    return source.choice(("<=", "<")), lowered(thing, bound)


def limits_of(thing, face):
    """The limits of a thing at the corners of a face."""
    level = worth(thing, *face.view) - true_at(thing, face.view)
    return [level + true_at(thing, corner) for corner in face.corners]


def true_at(thing, view):
    """The true part of a thing at a view."""
    if thing[0] == "true":
        return thing[1] * view[0] + thing[2] * view[1]
    return sum(count * true_at(part, view) for count, part in thing[1]) if thing[0] == "sum" else 0


def has_true(tree):
    """Whether there is a true part in a thing or a claim."""
    if tree[0] in ("<=", "<"):
        return has_true(tree[1])
    if tree[0] == "sum":
        return any(has_true(part) for _, part in tree[1])
    return tree[0] == "true" or tree[0] in ("and", "or") and any(has_true(part) for part in tree[1])


def plain_bound(thing, turns):
    """The greatest limit of a thing at the corners of the faces of some turns."""
    terms = own_terms(made(thing))
    return max(found for turn in turns for row in all_faces(terms, turn) for face in row for found in limits_of(thing, face))


def drawn_claim(source):
    """A claim that can be judged; atoms with true parts stand outermost."""
    drawing = small_drawing(source)
    kind = source.randint(0, 5)
    if kind == 0:
        return tight_atom(drawing, True)
    if kind == 1:
        return "and", (tight_atom(drawing, True), claim_tree(drawing, 1))
    if kind == 2:
        return "and", (tight_atom(drawing, True), tight_atom(drawing, True))
    if kind == 3:
        return source.choice(("and", "or")), (tight_atom(drawing, False), tight_atom(drawing, False))
    return claim_tree(drawing, 2) if kind == 4 else tight_atom(drawing, False)


def later_claim(tree, source):
    """A claim about what is far away: what is drawn is compared with far numbers."""
    thing = drawn_thing(small_drawing(source), False, False)
    grown = growth(thing)
    far = source.choice((FAR, -FAR, 7))
    return source.choice(("and", "or")), (tree, ("<=", lowered(thing, grown * far)))


def holds_at_all(tree, faces):
    """Whether a claim holds at views of faces, among them some very near to the corners."""
    if not has_true(tree):
        return all(holds(tree, *face.view) for face in faces)
    return all(holds(tree, *view) for face in faces for view in face.near_views())


def plain_share(tree, terms, turn):
    """The share of a turn at which a claim holds."""
    area = sum(face.area for row in all_faces(terms, turn) for face in row if holds(tree, *face.view))
    return area * divisor(terms)


def plain_at(tree, terms, zoom):
    """Whether a claim holds at a zoom at every scroll, and at some scroll."""
    truths = [holds(tree, *view) for face in faces_of_cell(terms, zoom, zoom, 0) for view in face.near_views()]
    return all(truths), any(truths)
