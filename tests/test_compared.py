import random
import unittest
from fractions import Fraction

from allzooms.compared import Alike, Parted, alike, differences, moved_row_range, row_range
from allzooms.drawn import Drawn
from allzooms.errors import BadDrawing, BadNumber, BadRounding, TooMany, Unlike
from allzooms.look_compared import shows_alike
from allzooms.look_views import shows_judge
from allzooms.pages import Box, Page
from allzooms.ratios import Ratio
from allzooms.roundings import Rounding
from allzooms.views import Always, Broken, Verdict
from allzooms.ways import AtLeast, ByEdges, Carried, Drawing, InRow, Style, Within, draw
from tests.check import LONG, Case, any_values, boxname, integer, number, zoom
from tests.plain_claims import FAR, own_terms
from tests.plain_faces import all_faces
from tests.plain_pixels import any_boxes, any_rounding, any_way, any_ways, made_page, made_rounding, made_style, page_pixels
from tests.plain_rows import plain_moved_range, plain_row_range
from tests.reckon import fraction

HALF, UP, DOWN = Rounding.half_up(), Rounding.all_up(), Rounding.all_down()
CUTS, TURNS = TooMany("cuts", 1000), TooMany("turns", 200)
FAR_HALF = (Fraction(1, 2), True)


class Plan:
    """Boxes and ways by chance: a drawing, and what the tests themselves reckon of it."""

    def __init__(self, boxes, default, ways):
        self.boxes = boxes
        self.default = default
        self.ways = ways

    def drawing(self):
        return draw(made_page(self.boxes), made_style(self.default, self.ways))

    def pixels(self, view):
        return page_pixels(self.boxes, self.default, self.ways, *view)


def flat(boxes, begin=0):
    """All boxes beside one another, at their places."""
    found = []
    for name, offset, units, inner in boxes:
        found += [(name, begin + offset, units, []), *flat(inner, begin + offset)]
    return found


def less_rounded(way, source):
    """A way that is like another one, but for a rounding or a number of pixels."""
    if way[0] == "least":
        return (way[0], way[1], source.choice((FAR, way[2] + 1))) if source.random() < 0.5 else (way[0], less_rounded(way[1], source), way[2])
    at = source.randrange(1, len(way))
    return (*way[:at], any_rounding(source), *way[at + 1:])


def with_far(way):
    return "least", way, FAR


def two_plans(source):
    """Two plans with the same names."""
    boxes, default = any_boxes(source, most=3), any_way(source)
    ways = any_ways(source, [box[0] for box in flat(boxes)] + ["x", "y", "z"])
    one = Plan(boxes, default, ways)
    kind = source.choice(("style", "near", "near", "far", "flat", "moved", "same"))
    if kind == "same":
        return one, Plan(boxes, default, dict(reversed(ways.items())))
    if kind == "style":
        return one, Plan(boxes, any_way(source), any_ways(source))
    if kind == "near":
        return one, Plan(boxes, less_rounded(default, source), ways)
    if kind == "far":
        other = {name: less_rounded(way, source) for name, way in ways.items()}
        return (Plan(boxes, with_far(default), {name: with_far(way) for name, way in ways.items()}),
                Plan(boxes, with_far(less_rounded(default, source)), {name: with_far(way) for name, way in other.items()}))
    if kind == "flat":
        others = flat(boxes)
        source.shuffle(others)
        edges = ("edges", any_rounding(source), any_rounding(source))
        return Plan(boxes, edges, {}), Plan(others, edges, {})
    others = [(name, offset + source.choice((0, 1)), units + source.choice((0, 0, 1)), []) for name, offset, units, _ in flat(boxes)]
    return one, Plan(others, default, ways)


def edges_of(plan):
    """The edges, in their order, told by the plan itself."""
    return [(box[0], side) for box in flat(plan.boxes) for side in ("left", "right")]


def side_of(drawing, edge):
    return drawing[edge[0]][0 if edge[1] == "left" else 1]


def unlike_at(one, other, edge, view):
    """One edge less the other one, at a view."""
    at = 0 if edge[1] == "left" else 1
    return one.pixels(view)[edge[0]][at] - other.pixels(view)[edge[0]][at]


def plain_lesses(one, other, edge, terms, turns):
    """The differences of an edge at all faces of some turns."""
    return {unlike_at(one, other, edge, face.view) for turn in turns for row in all_faces(terms, turn) for face in row}


def row_of(names, widths):
    """Boxes beside one another that touch."""
    return [Box(name, sum(widths[:at]), widths[at]) for at, name in enumerate(names)]


def crossing_drawings():
    """Drawings whose first unlike edge is parted to the one side and to the other one in very many turns."""
    early, late = "abcdefghijk", "mnopqrstuvw"
    boxes, inner = row_of(early, [1] + [2] * 10), row_of(late, [1] + [2] * 10)
    # The difference rises from the turn 1000 on, falls from 2000 on, rises from 3000 on, and is 0 amid them.
    styles = {"a": AtLeast(InRow(Rounding(Ratio(1, 60))), 1000), "m": AtLeast(InRow(), 21500)}
    for at in range(1, 11):
        styles[early[at]] = AtLeast(InRow(Rounding(Ratio(at + 1, 60))), 2000 * (2 * at + 1))
        styles[late[at]] = AtLeast(InRow(Rounding(Ratio(59 - at, 60))), 2000 * 2 * at)
    one = Page(*boxes, Box("l", 21, 1), Box("x", 40, 30, *inner))
    other = Page(*boxes, Box("x", 0, 30, *inner, Box("l", 21, 1)))
    style = Style(InRow(), **styles, x=Within())
    return draw(one, style), draw(other, style)


class ComparedTest(Case):
    def test_wrong_arguments(self):
        drawing = draw(Page(Box("a", 0, 1)), Style(ByEdges()))
        works = (alike, differences, lambda one, other: shows_alike(one, other, None), lambda one, other: shows_alike(one, other, Alike({})))
        for work in works:
            for value in any_values():
                if not isinstance(value, Drawing):
                    self.refuses(BadDrawing("one"), work, value, None)
                    self.refuses(BadDrawing("one"), work, value, drawing)
                    self.refuses(BadDrawing("other"), work, drawing, value)
                elif value.names != ("a",):
                    self.refuses(Unlike("names"), work, value, drawing)
                    self.refuses(Unlike("names"), work, drawing, value)
        self.assertEqual(alike(other=drawing, one=drawing), alike(drawing, drawing))
        self.assertEqual(differences(other=drawing, one=drawing), {("a", "left"): (0, 0), ("a", "right"): (0, 0)})
        self.assertIs(shows_alike(value=None, other=drawing, one=drawing), False)

    def test_names_ahead_of_many_cuts(self):
        far = Page(Box("a", 0, 5000), Box("b", 1, 5))
        for names in (("a",), ("a", "c"), ("a", "b", "c"), ("bb", "a")):
            other = Page(*[Box(name, 1, 3000) for name in names])
            for work in (alike, differences):
                self.refuses(Unlike("names"), work, draw(far, Style(ByEdges())), draw(other, Style(Within())))

    def test_pages_without_boxes(self):
        one, other = draw(Page(), Style(ByEdges())), draw(Page(), Style(InRow(UP)))
        self.assertEqual((alike(one, other), differences(one, other)), (Alike({}), {}))
        for value, is_right in ((Alike({}), True), (Alike([]), False), (Alike(None), False), (Alike({("a", "left"): 1}), False),
                                (Parted("a", "left", Ratio(1), Ratio(0)), False)):
            self.assertIs(shows_alike(one, other, value), is_right)

    def test_by_all_faces(self):
        kinds = {}
        for seed in range(130):
            source = random.Random(seed)
            one, other = two_plans(source)
            drawings = one.drawing(), other.drawing()
            texts = [(str(drawing.page), str(drawing.style)) for drawing in drawings]
            found, lesses = alike(*drawings), differences(*drawings)
            self.assertEqual(list(lesses), edges_of(one))
            self.assertIs(shows_alike(*drawings, found), True)
            for edge in edges_of(one):
                less = side_of(drawings[0], edge) - side_of(drawings[1], edge)
                grown = less.growth
                turns = [0, 1, 2, source.randint(3, 30), FAR // 3, FAR - 1, FAR, 2 * FAR, 5 * FAR]
                plain = plain_lesses(one, other, edge, own_terms(less), turns)
                is_alike = plain == {0}
                if grown:
                    self.assertIs(lesses[edge], None)
                    kinds["growth"] = True
                else:
                    low, high = lesses[edge]
                    self.assertTrue(integer(low) and integer(high) and type(lesses[edge]) is tuple)
                    # A bound can be reached in another turn than those that are looked at.
                    self.assertTrue(low <= min(plain) and max(plain) <= high, (seed, edge, lesses[edge], plain))
                    kinds["reached"] = kinds.get("reached", 0) + (lesses[edge] == (min(plain), max(plain)))
                    kinds["all"] = kinds.get("all", 0) + 1
                if found or edges_of(one).index(edge) < edges_of(one).index((found.name, found.side)):
                    self.assertTrue(is_alike and lesses[edge] == (0, 0), (seed, edge))
                elif edge == (found.name, found.side):
                    view = fraction(found.zoom), fraction(found.scroll)
                    self.assertTrue(view[0] > 0 and isinstance(found.zoom, Ratio) and isinstance(found.scroll, Ratio))
                    self.assertNotEqual(unlike_at(one, other, edge, view), 0)
                    self.assertNotEqual(lesses[edge], (0, 0))
            if found:
                self.assertEqual(list(found.papers), edges_of(one))
                self.assertTrue(all(type(paper) is Always for paper in found.papers.values()))
            self.assertIs(type(found), Alike if found else Parted)
            kinds[bool(found)] = kinds.get(bool(found), 0) + 1
            self.assertEqual([(str(drawing.page), str(drawing.style)) for drawing in drawings], texts)
            self.assertEqual((alike(*drawings), differences(*drawings)), (found, lesses))
        self.assertTrue(kinds[True] > 25 and kinds[False] > 40 and kinds["growth"], kinds)
        self.assertTrue(kinds["reached"] > 0.95 * kinds["all"], kinds)

    def test_other_order_and_nesting(self):
        one = draw(Page(Box("b", 2, 9, Box("a", 1, 3)), Box("c", 11, 4)), Style(ByEdges()))
        other = draw(Page(Box("c", 11, 4), Box("a", 3, 3), Box("b", 2, 9)), Style(ByEdges()))
        edges = [(name, side) for name in ("b", "a", "c") for side in ("left", "right")]
        found = alike(one, other)
        self.assertEqual((list(found.papers), list(differences(one, other))), (edges, edges))
        self.assertEqual(list(alike(other, one).papers), [(name, side) for name in ("c", "a", "b") for side in ("left", "right")])
        self.assertIs(shows_alike(other, one, found), True)
        self.assertEqual(set(differences(one, other).values()), {(0, 0)})
        found.papers.clear()
        self.assertEqual(len(alike(one, other).papers), 6)

    def test_parted_far_away_alone(self):
        page = Page(Box("a", 0, 2, Box("b", 0, 3)))
        one = draw(page, Style(AtLeast(ByEdges(HALF, HALF), FAR)))
        other = draw(page, Style(AtLeast(ByEdges(HALF, UP), FAR), b=AtLeast(ByEdges(HALF, DOWN), 2 * FAR)))
        found = alike(one, other)
        self.assertEqual((found.name, found.side, found.zoom > FAR // 2 - 2), ("a", "right", True))
        self.assertNotEqual(one(found.zoom, found.scroll)["a"], other(found.zoom, found.scroll)["a"])
        self.assertEqual(differences(one, other), {("a", "left"): (0, 0), ("a", "right"): (-1, 0), ("b", "left"): (0, 0), ("b", "right"): (-FAR, 1)})
        self.assertEqual(differences(other, one)[("b", "right")], (-1, FAR))

    def test_parted_at_single_zooms_alone(self):
        page = Page(Box("a", 0, 3, Box("b", 1, 1)), Box("c", 3, 1))
        below = Rounding(Ratio(1, 2), False)
        one, other = draw(page, Style(ByEdges(), b=Carried())), draw(page, Style(ByEdges(), b=Carried(below)))
        found = alike(one, other)
        self.assertEqual((found.name, found.side, (found.zoom * 2) % 2), ("b", "left", 1))
        self.assertEqual([differences(one, other)[("b", side)] for side in ("left", "right")], [(0, 1), (0, 1)])
        far = draw(page, Style(AtLeast(ByEdges(), FAR), b=AtLeast(Within(), FAR))), draw(page, Style(AtLeast(ByEdges(), FAR), b=AtLeast(Within(below), FAR)))
        found = alike(*far)
        self.assertEqual((found.name, found.side), ("b", "left"))
        page = Page(Box("b", 0, 2))
        far = draw(page, Style(AtLeast(ByEdges(ends=HALF), FAR))), draw(page, Style(AtLeast(ByEdges(HALF, below), FAR)))
        found = alike(*far)
        place = found.zoom * 2 + found.scroll
        self.assertEqual((found.name, found.side, place % 1, place > FAR - 2), ("b", "right", Ratio(1, 2), True))

    def test_no_least_or_no_greatest(self):
        one, other = draw(Page(Box("a", 0, 5)), Style(ByEdges())), draw(Page(Box("a", 1, 3)), Style(ByEdges()))
        self.assertEqual(differences(one, other), {("a", "left"): None, ("a", "right"): None})
        other = draw(Page(Box("a", 0, 4)), Style(ByEdges(HALF, DOWN)))
        self.assertEqual(differences(one, other), {("a", "left"): (0, 0), ("a", "right"): None})
        self.assertEqual(differences(other, one), {("a", "left"): (0, 0), ("a", "right"): None})
        self.assertEqual(len(differences(one, one).pop(("a", "left"))), 2)

    def test_too_many_cuts(self):
        page = Page(Box("a", 0, 3), Box("b", 3, 502))
        carried, within = draw(page, Style(Carried())), draw(page, Style(Carried(), b=Within()))
        for work in (alike, differences):
            self.refuses(CUTS, work, carried, within)
        self.assertEqual(len(alike(draw(page, Style(Carried(), b=Carried(HALF))), carried).papers), 4)
        # None is judged behind the first one that is not alike, but all of them are told of.
        other = draw(page, Style(Carried(), a=Carried(UP), b=Within()))
        found = alike(carried, other)
        self.assertEqual((found.name, found.side), ("a", "left"))
        self.refuses(CUTS, differences, carried, other)
        for value in [*any_values(), alike(carried, carried)]:
            if isinstance(value, Alike):
                self.refuses(CUTS, shows_alike, carried, other, value)
            else:
                self.assertIs(shows_alike(carried, other, value), False)
        self.assertIs(shows_alike(carried, other, found), True)
        view = Ratio(1, 6), Ratio(0)
        self.assertEqual((carried(*view)["b"], within(*view)["b"]), ((1, 84), (1, 85)))
        self.assertIs(shows_alike(carried, other, Parted("b", "right", *view)), True)
        self.assertIs(shows_alike(carried, other, Parted("b", "left", *view)), False)

    def test_too_many_turns(self):
        one, other = crossing_drawings()
        self.refuses(TURNS, alike, one, other)
        self.assertIs(shows_alike(one, other, Alike({})), False)
        low, high = differences(one, other)[("l", "left")]
        self.assertTrue(-520 <= low <= -500 and 500 <= high <= 520, (low, high))
        self.assertEqual(differences(one, other)[("a", "right")], (0, 0))

    def test_more_terms_than_a_sum_may_have(self):
        names = "abcdefghijklmnopqrstuvw"
        page = Page(*row_of(names, [1] * 23))
        drawings = []
        for is_from in (True, False):
            ways = {name: InRow(Rounding(Ratio(at + 1, 99), is_from)) for at, name in enumerate(names)}
            drawings.append(draw(page, Style(InRow(), **ways)))
        one, other = drawings
        self.refuses(TooMany("terms", 24), lambda: one.right("w") - other.right("w"))
        found = alike(one, other)
        self.assertEqual((found.name, found.side, found.scroll % 1), ("a", "left", Ratio(1, 99)))
        self.assertEqual(differences(one, other), {(name, side): (0, 1 if (name, side) == ("a", "left") else 2)
                                                   for name in names for side in ("left", "right")})
        self.assertEqual(len(alike(one, one).papers), 46)


class LookComparedTest(Case):
    def setUp(self):
        page = Page(Box("a", 0, 3, Box("b", 1, 1)))
        self.one = draw(page, Style(ByEdges(), b=AtLeast(Within(), 2)))
        self.other = draw(Page(Box("a", 0, 3, Box("b", 1, 1))), Style(ByEdges(HALF), b=AtLeast(AtLeast(Within(), 1), 2)))
        self.found = alike(self.one, self.other)

    def right(self, papers):
        return shows_alike(self.one, self.other, Alike(papers))

    def test_changed_papers(self):
        papers = self.found.papers
        self.assertIs(self.right(papers), True)
        self.assertIs(self.right(dict(reversed(papers.items()))), True)
        for edge in papers:
            self.assertIs(self.right({key: papers[key] for key in papers if key != edge}), False)
            for value in [*any_values(), papers, (papers[edge],), Broken(Ratio(1), Ratio(0)), self.found]:
                is_right = isinstance(value, Always) and shows_judge(claim_of(self.one, self.other, edge), value)
                self.assertIs(self.right({**papers, edge: value}), is_right)
            marks, turns = papers[edge].marks, papers[edge].turns
            more = (marks[0], (marks[0] + marks[1]) * Ratio(1, 2), *marks[1:])
            for paper, is_right in (
                (Always(more, turns), True), (Always(marks, (*turns, turns[-1] + 7)), True), (Always(marks[:-1], turns), False),
                (Always(marks[1:], turns), False), (Always(marks, ()), False), (Always(marks, turns[1:]), False),
                (Always(list(marks), turns), False), (Always(marks, turns * 2), False), (Always(marks[:1] + marks, turns), False),
            ):
                self.assertIs(self.right({**papers, edge: paper}), is_right, (edge, paper.turns))
        for key in [("c", "left"), ("a", "top"), "a", 0, None, ("a",), ("a", "left", 0), (), ("b", True), len]:
            self.assertIs(self.right({**papers, key: papers[("a", "left")]}), False)
            self.assertIs(self.right({**{edge: papers[edge] for edge in list(papers)[1:]}, key: papers[("a", "left")]}), False)
        for value in [list(papers), list(papers.items()), tuple(papers.items()), papers.keys(), *any_values()]:
            self.assertIs(self.right(value), False)

    def test_papers_of_other_edges(self):
        papers = self.found.papers
        claims = {edge: claim_of(self.one, self.other, edge) for edge in papers}
        for edge in papers:
            for other in papers:
                self.assertIs(self.right({**papers, edge: papers[other]}), shows_judge(claims[edge], papers[other]))

    def test_broken_claims(self):
        other = draw(self.one.page, Style(ByEdges(), b=AtLeast(Within(UP), 2)))
        self.assertEqual((alike(self.one, other).name, alike(self.one, other).side), ("b", "left"))
        self.assertIs(shows_alike(self.one, other, self.found), False)
        broken = alike(self.one, other)
        papers = {**self.found.papers, ("b", "left"): Broken(broken.zoom, broken.scroll)}
        self.assertIs(shows_alike(self.one, other, Alike(papers)), False)
        # All papers are right ones, but one of them is no Always.
        one = draw(Page(Box("a", 0, 3)), Style(ByEdges()))
        other = draw(Page(Box("a", 0, 3)), Style(ByEdges(HALF, UP)))
        broken = alike(one, other)
        self.assertEqual((broken.name, broken.side), ("a", "right"))
        papers = {("a", "left"): alike(one, one).papers["a", "left"], ("a", "right"): Broken(broken.zoom, broken.scroll)}
        self.assertTrue(all(shows_judge(claim_of(one, other, edge), papers[edge]) for edge in papers))
        self.assertIs(shows_alike(one, other, Alike(papers)), False)

    def test_any_parted(self):
        one = draw(Page(Box("a", 0, 3), Box("b", 3, 3)), Style(InRow()))
        other = draw(Page(Box("b", 3, 3), Box("a", 0, 3)), Style(ByEdges()))
        rights = 0
        for zoom_told in (Ratio(1, 2), Ratio(1, 6), 1, 7, Ratio(7, 6), Ratio(1, 2) + LONG):
            for scroll in (0, Ratio(1, 2), Ratio(-1, 3), LONG):
                for name in ("a", "b"):
                    for at, side in enumerate(("left", "right")):
                        is_right = one(zoom_told, scroll)[name][at] != other(zoom_told, scroll)[name][at]
                        self.assertIs(shows_alike(one, other, Parted(name, side, zoom_told, scroll)), is_right)
                        rights += is_right
        self.assertTrue(rights > 10)
        view = Ratio(1, 2), Ratio(0)
        self.assertIs(shows_alike(one, other, Parted("b", "right", *view)), True)
        for value in any_values():
            self.assertIs(shows_alike(one, other, Parted(value, "right", *view)), False)
            self.assertIs(shows_alike(one, other, Parted("b", value, *view)), False)
            for told in (Parted("b", "right", value, view[1]), Parted("b", "right", view[0], value)):
                is_view = zoom(told.zoom) and number(told.scroll)
                is_right = is_view and one(told.zoom, told.scroll)["b"][1] != other(told.zoom, told.scroll)["b"][1]
                self.assertIs(shows_alike(one, other, told), is_right)
            self.assertIs(shows_alike(one, other, value), False)
            self.assertIs(shows_alike(one, one, value), False)
        for told in (Parted("b", "right", Ratio(-1, 2), view[1]), Parted("b", "right", 0, 0), Parted("b", ("right",), *view), Broken(*view)):
            self.assertIs(shows_alike(one, other, told), False)

    def test_papers_of_any_values(self):
        for value in any_values():
            paper = Alike(papers=value)
            self.assertTrue(paper.papers is value and paper and paper == Alike(value) and paper != value)
            parted = Parted(name=value, side=value, zoom=value, scroll=value)
            self.assertTrue(all(told is value for told in vars(parted).values()) and not parted)
            self.assertEqual(list(vars(parted)), ["name", "side", "zoom", "scroll"])
            self.assertTrue(parted == Parted(value, value, value, value))
            for at in range(4):
                parts = [value, value, value, value]
                parts[at] = "other"
                self.assertFalse(parted == Parted(*parts))
            self.assertFalse(paper == parted or parted == paper or parted == value or paper == Alike("other"))
        self.assertTrue(Alike({("a", "left"): Always((1,), (0,))}) == Alike({("a", "left"): Always((1,), (0,))}))
        self.assertFalse(isinstance(Alike({}), Verdict))


def claim_of(one, other, edge):
    return side_of(one, edge).equals(side_of(other, edge))


class RowsTest(Case):
    def test_by_a_search(self):
        for n in range(0, 11):
            for under in range(1, 9):
                for over in range(under + 1):
                    for is_from in (True, False):
                        if is_from and over > 0 or not is_from and over < under:
                            plain = Fraction(over, under), is_from
                            rounding = made_rounding(plain)
                            if n:
                                self.assertEqual(row_range(rounding, n), plain_row_range(plain, n))
                            self.assertEqual(moved_row_range(rounding, n), plain_moved_range(plain, n))

    def test_widths_as_drawn(self):
        for seed in range(20):
            source = random.Random(seed)
            rounding, n = made_rounding(any_rounding(source)), source.randint(1, 6)
            found = [n * Drawn.size(1, rounding) - Drawn.size(n, rounding),
                     Drawn.edge(0, rounding) + n * Drawn.size(1, rounding) - Drawn.edge(n, rounding)]
            page = Page(*row_of("abcdef"[:n], [1] * n))
            drawings = draw(page, Style(InRow(rounding))), draw(page, Style(ByEdges(rounding)))
            self.assertEqual(differences(*drawings)[("abcdef"[n - 1], "right")], moved_row_range(rounding, n))
            for place in range(30):
                at, scroll = Ratio(source.randint(1, 90), 30), Ratio(source.randint(-90, 90), 30)
                for drawn, told in zip(found, (row_range(rounding, n), moved_row_range(rounding, n))):
                    self.assertTrue(told[0] <= drawn(at, scroll) <= told[1])

    def test_far_rows(self):
        third = Rounding(Ratio(1, 3))
        for n in (10 ** 30, 10 ** 30 - 1, 10 ** 29 + 7):
            self.assertEqual(row_range(DOWN, n), (1 - n, 0))
            self.assertEqual(row_range(UP, n), (0, n - 1))
            self.assertEqual(moved_row_range(DOWN, n), (-n, 0))
            self.assertEqual(moved_row_range(UP, n), (0, n))
            # The one before n / 3 of a pixel from 1/3 on, and what is left at it.
            self.assertEqual(row_range(third, n), (-third.before(Ratio(n, 3)), n - third(Ratio(n, 3))))
            self.assertEqual(moved_row_range(third, n), row_range(third, n + 1) if n < 10 ** 30 else moved_row_range(third, n))
        self.assertEqual(moved_row_range(HALF, 10 ** 30), (-5 * 10 ** 29, 5 * 10 ** 29))
        long = Rounding(Ratio(LONG - 1, LONG), False)
        plain = Fraction(LONG - 1, LONG), False
        for n in (1, 2, 3, 50):
            self.assertEqual((row_range(long, n), moved_row_range(long, n)), (plain_row_range(plain, n), plain_moved_range(plain, n)))

    def test_wrong_arguments(self):
        for work, fewest in ((row_range, 1), (moved_row_range, 0)):
            for value in any_values():
                if not isinstance(value, Rounding):
                    self.refuses(BadRounding("rounding"), work, value, 3)
                    self.refuses(BadRounding("rounding"), work, value, None)
                if not integer(value) or value < fewest or value > 10 ** 30:
                    self.refuses(BadNumber(value), work, HALF, value)
            self.refuses(BadNumber(10 ** 30 + 1), work, HALF, 10 ** 30 + 1)
            self.refuses(BadNumber(fewest - 1), work, HALF, fewest - 1)
            self.assertEqual(work(n=1, rounding=HALF), work(HALF, 1))
        self.refuses(BadNumber(0), row_range, HALF, 0)
        self.assertEqual((moved_row_range(HALF, 0), row_range(HALF, 1), type(row_range(HALF, 1))), ((0, 0), (0, 0), tuple))


if __name__ == "__main__":
    unittest.main()
