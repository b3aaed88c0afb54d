import random
import unittest
from fractions import Fraction

from allzooms.drawn import Claim, Drawn
from allzooms.errors import BadDrawing, BadPage, BadScroll, BadStyle, BadText, BadWay, BadZoom, NoBox, TooMany
from allzooms.pages import Box, Page
from allzooms.ratios import Ratio
from allzooms.roundings import Rounding
from allzooms.views import judge
from allzooms.ways import AtLeast, ByEdges, Carried, Drawing, InRow, Style, Way, Within, draw
from tests.check import LONG, Case, any_values, boxname, integer, number, zoom
from tests.grammar import first_wrong, mutated
from tests.plain_pixels import any_boxes, any_way, any_ways, made_page, made_style, made_way, page_pixels
from tests.reckon import fraction, ratio

UP, DOWN, HALF = Rounding.all_up(), Rounding.all_down(), Rounding.half_up()
KINDS = (Within, Carried, InRow)


def is_rounding(value):
    return value is None or isinstance(value, Rounding)


def is_way(value):
    return isinstance(value, Way)


def is_page(value):
    return isinstance(value, Page)


def is_style(value):
    return isinstance(value, Style)


class WaysTest(Case):
    def test_wrong_ways(self):
        self.refuses_all(lambda value: BadWay("begins"), is_rounding, lambda value: ByEdges(value, 7))
        self.refuses_all(lambda value: BadWay("ends"), is_rounding, lambda value: ByEdges(None, value))
        for kind in KINDS:
            self.refuses_all(lambda value: BadWay("rounding"), is_rounding, kind)
        self.refuses_all(lambda value: BadWay("way"), is_way, lambda value: AtLeast(value, None))
        self.refuses_all(lambda value: BadWay("pixels"), lambda value: integer(value) and value > 0,
                         lambda value: AtLeast(InRow(), value))
        self.refuses(BadWay("way"), AtLeast, Way, 1)

    def test_attributes(self):
        self.assertEqual((ByEdges().begins, ByEdges().ends, ByEdges(UP).ends), (HALF, HALF, UP))
        self.assertEqual((ByEdges(ends=UP).begins, ByEdges(ends=UP).ends, ByEdges(begins=UP, ends=DOWN).ends), (HALF, UP, DOWN))
        for kind in KINDS:
            self.assertEqual((kind().rounding, kind(rounding=UP).rounding), (HALF, UP))
            self.assertTrue(kind() and isinstance(kind(), Way))
        least = AtLeast(pixels=3, way=Within(UP))
        self.assertEqual((least.way, least.pixels), (Within(UP), 3))
        self.assertTrue(isinstance(least, Way) and isinstance(ByEdges(), Way))

    def test_equal_ways(self):
        ways = [ByEdges(), ByEdges(UP), ByEdges(UP, HALF), ByEdges(None, UP), AtLeast(ByEdges(), 1), AtLeast(ByEdges(), 2),
                AtLeast(AtLeast(ByEdges(), 1), 1), AtLeast(ByEdges(UP), 1)]
        ways += [kind(rounding) for kind in KINDS for rounding in (HALF, UP, DOWN, Rounding(Ratio(1, 2), False))]
        for at, one in enumerate(ways):
            for beside, other in enumerate(ways):
                self.assertIs(one == other, at == beside)
            self.assertEqual(Way.read(str(one)), one)
            for value in any_values():
                self.assertFalse(one == value and not isinstance(value, Way))
        self.assertEqual(ByEdges(), ByEdges(HALF, HALF))
        self.assertEqual(str(AtLeast(ByEdges(UP, Rounding(Ratio(2, 3))), 12)), "least 12 edges above 0 from 2/3")
        self.assertEqual([str(kind(DOWN)) for kind in KINDS], ["within from 1", "carried from 1", "row from 1"])

    def test_ways_may_stand_deep(self):
        deep = "least 2 " * 3000 + "row from 1/2"
        way = Way.read(deep)
        self.assertEqual(str(way), deep)
        drawing = draw(Page(Box("a", 0, 1)), Style(way))
        self.assertEqual(drawing(1), {"a": (0, 2)})

    def test_drawn_at_views(self):
        for seed in range(250):
            source = random.Random(seed)
            boxes, default, ways = any_boxes(source), any_way(source), any_ways(source)
            page, style = made_page(boxes), made_style(default, ways)
            text = (str(page), str(style))
            drawing = draw(page, style)
            self.assertTrue(isinstance(drawing, Drawing) and drawing.page == page and drawing.style == style)
            for _ in range(4):
                place = Fraction(source.randint(1, 40), source.choice((1, 2, 3, 4, 8)))
                moved = Fraction(source.randint(-9, 9), source.choice((1, 2, 3, 4)))
                found = drawing(ratio(place), ratio(moved))
                plain = page_pixels(boxes, default, ways, place, moved)
                self.assertEqual(found, plain, (seed, text))
                self.assertEqual(list(found), list(page.names))
                self.assertTrue(all(type(side) is int for pair in found.values() for side in pair))
            self.check_parts(drawing, page, source, plain, place, moved)
            self.assertEqual((str(page), str(style)), text)

    def check_parts(self, drawing, page, source, plain, place, moved):
        view = ratio(place), ratio(moved)
        self.assertEqual((drawing.names, list(drawing), len(drawing)), (page.names, list(page.names), len(page)))
        for name in page.names:
            left, right = drawing[name]
            self.assertEqual((type(left), type(drawing[name])), (Drawn, tuple))
            self.assertEqual((left.weight, right.weight, left.is_whole, right.is_whole), (1, 1, True, True))
            self.assertEqual((left(*view), right(*view)), plain[name])
            self.assertEqual((drawing.left(name), drawing.right(name)), (left, right))
            self.assertEqual(drawing.width(name)(*view), plain[name][1] - plain[name][0])
            begin, end = page[name]
            true = (begin * place + moved, end * place + moved)
            self.assertEqual(fraction(drawing.drift(name)(*view)), plain[name][0] - true[0])
            self.assertEqual(fraction(drawing.drift(side="right", name=name)(*view)), plain[name][1] - true[1])
            self.assertEqual(drawing.drift(name, "left"), drawing.drift(name))
            other = source.choice(page.names)
            (one, two), (low, high) = plain[name], plain[other]
            self.assertEqual(drawing.gap(name, other)(*view), low - two)
            self.assertIs(drawing.inside(name, other)(*view), low <= one and two <= high)
            self.assertIs(drawing.apart(name, other)(*view), not set(range(one, two)) & set(range(low, high)))

    def test_told_sides(self):
        page = Page(Box("a", 2, 3, Box("b", 1, 1), Box("c", 4, 2), Box("d", 5, 0)))
        for way, left, right in (
            (ByEdges(UP, DOWN), "edge 6 above 0", "edge 8 from 1"),
            (Within(UP), "edge 0 above 0 + size 2 above 0 + size 4 above 0", "edge 0 above 0 + 2 size 2 above 0 + size 4 above 0"),
            (Carried(UP), "edge 0 above 0 + size 2 above 0 + size 4 above 0", "edge 0 above 0 + size 2 above 0 + size 6 above 0"),
            (InRow(UP), "edge 0 above 0 + 2 size 1 above 0 + 2 size 2 above 0", "edge 0 above 0 + 2 size 1 above 0 + 3 size 2 above 0"),
        ):
            drawing = draw(page, Style(way))
            self.assertEqual((str(drawing.left("c")), str(drawing.right("c"))), (left, right))
        mixed = draw(page, Style(Within(UP), d=InRow(DOWN), a=ByEdges(UP), c=AtLeast(Within(), 4)))
        self.assertEqual(str(mixed.left("d")), "edge 2 above 0 + size -1 from 1 + size 4 from 1/2 + ( 4 | size 2 from 1/2 )")
        self.assertEqual(mixed.right("d"), mixed.left("d"))

    def test_wrong_arguments(self):
        page, style = Page(Box("a", 0, 3), Box("b", 3, 3)), Style(ByEdges())
        self.refuses_all(lambda value: BadPage("page"), is_page, lambda value: draw(value, None))
        self.refuses_all(lambda value: BadStyle("style"), is_style, lambda value: draw(page, value))
        drawing = draw(style=style, page=page)

        def is_here(value):
            return isinstance(value, str) and value in ("a", "b")

        for work in (drawing.left, drawing.right, drawing.width, lambda name: drawing[name], lambda name: drawing.gap(name, None),
                     lambda name: drawing.gap("a", name), lambda name: drawing.drift(name, 5), drawing.drift,
                     lambda name: drawing.apart(name, None), lambda name: drawing.apart("b", name),
                     lambda name: drawing.inside(name, None), lambda name: drawing.inside("b", name)):
            self.refuses_all(NoBox, is_here, work)
        self.refuses_all(lambda value: BadDrawing("side"), lambda value: value in ("left", "right"),
                         lambda value: drawing.drift("a", value))
        self.refuses_all(BadZoom, zoom, lambda value: drawing(value, None))
        self.refuses_all(BadScroll, number, lambda value: drawing(1, value))
        for value in any_values():
            self.assertIs(value in drawing, is_here(value))
        self.assertEqual(drawing(scroll=0, zoom=1), drawing(1))

    def test_equal_drawings(self):
        page, other = Page(Box("a", 0, 3)), Page(Box("a", 0, 4))
        one = draw(page, Style(ByEdges()))
        self.assertTrue(one == draw(Page(Box("a", 0, 3)), Style(ByEdges(HALF))))
        self.assertFalse(one == draw(other, Style(ByEdges())) or one == draw(page, Style(Within())))
        self.assertTrue(one and not draw(Page(), Style(ByEdges())))
        empty = draw(Page(), Style(ByEdges()))
        self.assertEqual((empty(1), empty.names, len(empty), list(empty)), ({}, (), 0, []))
        one(1)["a"] = None
        self.assertEqual(one(1), {"a": (0, 3)})

    def test_too_many(self):
        box = Box("last", 30, 60)
        for at in range(21):
            box = Box("abcdefghijklmnopqrstuvwxyz"[at], at + 1, 50, box)
        page = Page(Box("top", 40, 70, box))
        self.assertEqual(len(draw(page, Style(Carried())).left("last").terms), 24)
        self.assertEqual(len(draw(page, Style(Carried())).right("last").terms), 24)
        error = TooMany("terms", 24)
        self.refuses(error, draw, Page(Box("more", 90, 70, *page.boxes)), Style(Within()))
        self.refuses(error, draw, page, Style(Within()))
        self.refuses(error, draw, page, Style(InRow(), last=AtLeast(InRow(), 2)))
        self.assertEqual(len(draw(page, Style(ByEdges(), last=Carried())).left("last").terms), 2)
        rows = [Box("abcdefghijklmnopqrstuvwx"[at], at, 1) for at in range(24)]
        ways = {box.name: AtLeast(InRow(), at + 1) for at, box in enumerate(rows)}
        wide = draw(Page(*rows), Style(InRow(), **ways))
        self.assertEqual(wide(Ratio(1, 100))["x"], (sum(range(24)), sum(range(25))))
        self.assertEqual(str(wide.right("x")).count("|"), 24)

    def test_long_units(self):
        page = Page(Box("a", LONG, LONG, Box("b", -LONG, LONG)))
        for way in (ByEdges(), Within(), Carried(), InRow(), AtLeast(InRow(), LONG)):
            found = draw(page, Style(way))(2 * LONG, Ratio(1, LONG))
            self.assertEqual(found, {"a": (2 * LONG * LONG, 4 * LONG * LONG), "b": (0, 2 * LONG * LONG)})

    def test_touching_boxes(self):
        page = Page(Box("a", 0, 3), Box("b", 3, 3), Box("c", 6, 4))
        edges, row = draw(page, Style(ByEdges(UP))), draw(page, Style(InRow(UP)))
        self.assertEqual(edges.gap("a", "b"), Drawn.plain(0))
        self.assertTrue(judge(row.width("a").equals(row.width("b"))))
        self.assertTrue(judge(edges.apart("a", "c")) and judge(edges.apart("a", "b")) and judge(row.apart("b", "c")))
        self.assertFalse(judge(edges.width("a").equals(edges.width("b"))))
        thin = draw(page, Style(AtLeast(ByEdges(), 2)))
        self.assertFalse(judge(thin.apart("a", "b")))
        self.assertTrue(judge(thin.width("b").at_least(2)) and isinstance(thin.apart("a", "b"), Claim))


class StyleTest(Case):
    def test_wrong_styles(self):
        self.refuses_all(lambda value: BadStyle("way"), is_way, lambda value: Style(value, a=None, A=1))
        self.refuses_all(lambda value: BadStyle("b"), is_way, lambda value: Style(ByEdges(), a=InRow(), b=value, c=None, A=1))
        for name in ("A", "abcdefghi", "a1", "", "a b", "_", "-"):
            self.refuses(BadStyle(name), lambda: Style(ByEdges(), **{"a": InRow(), name: InRow(), "b": None}))
            self.refuses(BadStyle("b"), lambda: Style(ByEdges(), **{"b": None, name: InRow()}))
        self.assertEqual(Style(way=ByEdges(UP), abcdefgh=InRow()).way, ByEdges(UP))

    def test_parts(self):
        style = Style(ByEdges(), b=InRow(), a=Within(UP), c=ByEdges())
        self.assertEqual((style.way, style["a"], style["b"], style["c"], style["d"]), (ByEdges(), Within(UP), InRow(), ByEdges(), ByEdges()))
        self.assertEqual((len(style), list(style), len(Style(InRow())), bool(Style(InRow()))), (3, ["a", "b", "c"], 0, True))
        self.refuses_all(lambda value: BadStyle("name"), boxname, lambda value: style[value])
        for value in any_values():
            self.assertIs(value in style, isinstance(value, str) and value in ("a", "b", "c"))
        self.assertEqual(str(style), "edges from 1/2 from 1/2 ; a within above 0 ; b row from 1/2 ; c edges from 1/2 from 1/2")
        self.assertTrue(style == Style(ByEdges(), c=ByEdges(), a=Within(UP), b=InRow()))
        for other in (Style(InRow(), b=InRow(), a=Within(UP), c=ByEdges()), Style(ByEdges(), b=InRow(), a=Within(UP)),
                      Style(ByEdges(), b=InRow(), a=Within(), c=ByEdges()), ByEdges(), None):
            self.assertFalse(style == other)

    def test_other_styles(self):
        style = Style(ByEdges(), b=InRow(), a=Within(UP))
        self.assertEqual(str(style.with_way("a", Carried())), "edges from 1/2 from 1/2 ; a carried from 1/2 ; b row from 1/2")
        self.assertEqual(str(style.with_way(way=Carried(), name="c")), str(style) + " ; c carried from 1/2")
        self.refuses_all(lambda value: BadStyle("name"), boxname, lambda value: style.with_way(value, None))
        self.refuses_all(lambda value: BadStyle("way"), is_way, lambda value: style.with_way("c", value))
        self.assertEqual(str(style.without(name="a")), "edges from 1/2 from 1/2 ; b row from 1/2")
        self.refuses_all(NoBox, lambda value: isinstance(value, str) and value in ("a", "b"), style.without)
        self.refuses(NoBox("c"), style.without, "c")
        both = style | Style(InRow(), a=InRow(DOWN), z=InRow())
        self.assertEqual(str(both), "edges from 1/2 from 1/2 ; a row from 1 ; b row from 1/2 ; z row from 1/2")
        self.refuses_all(lambda value: BadStyle("other"), is_style, lambda value: style | value)
        self.assertEqual(str(style), "edges from 1/2 from 1/2 ; a within above 0 ; b row from 1/2")
        kept = style
        kept |= Style(InRow(), q=InRow())
        self.assertEqual((len(kept), len(style)), (3, 2))

    def test_keywords_of_a_caller(self):
        ways = {"a": InRow()}
        style = Style(ByEdges(), **ways)
        ways["b"] = None
        self.assertEqual(len(style), 1)


class WayTextsTest(Case):
    VOCABULARY = """edges within carried row least ; a b way self A abcdefghi from above 0 1 1/2 2 -1 3/2 2/4 01 5/6 - ( ) x
    1.0 +1 +""".split() + ["", "1\n"]

    def check(self, kind, goal, text):
        wrong = first_wrong(goal, text)
        words = text.split(" ")
        if wrong is None:
            try:
                found = kind.read(text)
            except BadText as error:
                self.assertEqual((error.line, error.word), (0, len(words)))
                self.assertEqual(goal, "STYLE")
                return False
            self.assertEqual(str(found), text)
            return True
        self.refuses(BadText(0, wrong), kind.read, text)
        return False

    def test_texts_of_ways(self):
        for seed in range(1500):
            source = random.Random(seed)
            way = made_way(any_way(source))
            self.assertEqual((Way.read(str(way)), str(Way.read(str(way)))), (way, str(way)))
            self.check(Way, "WAY", mutated(source, str(way), self.VOCABULARY))
        for text in ("", " ", "row", "row from", "row from 1/2 ", "least 1", "least 0 row from 1", "least -1 row from 1", "least x",
                     "edges from 1", "edges from 1 from 1 from 1", "within above 1", "least 1/2 row from 1", "row  from 1"):
            self.assertFalse(self.check(Way, "WAY", text))
        self.refuses(BadText(0, 1), Way.read, "least 0 row from 1")
        self.refuses(BadText(0, 2), Way.read, "least 5")

    def test_texts_of_styles(self):
        held = 0
        for seed in range(1500):
            source = random.Random(seed)
            style = made_style(any_way(source), any_ways(source))
            self.assertEqual((Style.read(str(style)), str(Style.read(str(style)))), (style, str(style)))
            held += self.check(Style, "STYLE", mutated(source, str(style), self.VOCABULARY))
        self.assertTrue(0 < held < 700)
        for text in ("row from 1 ;", "row from 1 ; a", "row from 1 ; way row from 1", "row from 1 ; b row from 1 ; a row from 1",
                     "row from 1 ; a row from 1 ; a row from 1/2", "; a row from 1", "row from 1 a row from 1"):
            self.assertFalse(self.check(Style, "STYLE", text))
        self.refuses(BadText(0, 13), Style.read, "row from 1 ; b row from 1 ; a row from 1")

    def test_values_that_are_no_texts(self):
        for kind in (Way, Style):
            self.refuses_all(lambda value: BadText(0, 0), lambda value: isinstance(value, str), kind.read)


if __name__ == "__main__":
    unittest.main()
