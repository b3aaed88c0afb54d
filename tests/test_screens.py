import random
import unittest
from fractions import Fraction
from itertools import product

from allzooms.drawn import Claim, Drawn
from allzooms.errors import BadRatio, BadScreen, BadScroll, BadZoom, NoBox, NoChange, NoZoom, Refused, SnapError, TooMany
from allzooms.pages import Box, Page
from allzooms.ratios import Ratio
from allzooms.roundings import Rounding
from allzooms.screens import Screen
from allzooms.texts import screen_text
from allzooms.ways import ByEdges, Drawing, InRow, Style, Within
from tests.check import LONG, Case, any_values, number, zoom
from tests.plain_pixels import any_boxes, any_way, any_ways, made_page, made_style, page_pixels
from tests.reckon import fraction, ratio

HALF = Ratio(1, 2)
PAGE = Page(Box("a", 0, 3), Box("b", 3, 3))
WORDS = {"page_now": "page", "style_now": "style", "zoom_now": "zoom", "scroll_now": "scroll"}


def is_page(value):
    return isinstance(value, Page)


def is_style(value):
    return isinstance(value, Style)


def guard_name(value):
    return isinstance(value, str) and 1 <= len(value) <= 8 and all("a" <= letter <= "z" for letter in value)


def wide_enough(drawing):
    """A guard: the first box of a page has a pixel."""
    return drawing.width(drawing.names[0]).at_least(1)


def screen_of(zoom=HALF, scroll=0):
    return Screen(PAGE, Style(ByEdges()), zoom, scroll)


class Model:
    """What a screen must show, by the words of the document: plain values, and all states so far."""

    def __init__(self, boxes, default, ways, place, moved):
        self.now = {"boxes": boxes, "style": (default, ways), "zoom": place, "scroll": moved, "guards": {}}
        self.past = []
        self.moved = ()

    def shown(self):
        now = self.now
        return page_pixels(now["boxes"], now["style"][0], now["style"][1], now["zoom"], now["scroll"])

    def refuses(self, changed):
        """The first guard that would not hold; a guard is a name of a box and its least width."""
        after = Model(None, None, None, None, None)
        after.now = {**self.now, **changed}
        pixels = after.shown()
        for name in sorted(after.now["guards"]):
            box, least = after.now["guards"][name]
            if box not in pixels or pixels[box][1] - pixels[box][0] < least:
                return name
        return None

    def put(self, word, changed):
        before = self.shown()
        self.past.append((word, self.now))
        self.now = {**self.now, **changed}
        self.note(before)

    def note(self, before):
        after = self.shown()
        moved = [name for name in after if before.get(name) != after[name]]
        self.moved = tuple(moved + [name for name in before if name not in after])

    def undo(self):
        before = self.shown()
        word, self.now = self.past.pop()
        self.note(before)
        return word

    def copy(self):
        other = Model(None, None, None, None, None)
        other.now, other.past, other.moved = self.now, list(self.past), self.moved
        return other


def guard_rule(box, least, is_function):
    """A guard as the screen keeps it; the claim is that of the page and style now."""
    def rule(drawing):
        return drawing.width(box).at_least(least)
    return rule if is_function else None


class ScreenTest(Case):
    def test_wrong_arguments(self):
        style = Style(ByEdges())
        self.refuses_all(lambda value: BadScreen("page"), is_page, lambda value: Screen(value, None, None, None))
        self.refuses_all(lambda value: BadScreen("style"), is_style, lambda value: Screen(PAGE, value, None, None))
        self.refuses_all(BadZoom, zoom, lambda value: Screen(PAGE, style, value, None))
        self.refuses_all(BadScroll, number, lambda value: Screen(PAGE, style, 1, value))
        screen = Screen(scroll=HALF, page=PAGE, style=style, zoom=2)
        for work, error, fits in (
            (screen.set_page, lambda value: BadScreen("page"), is_page), (screen.set_style, lambda value: BadScreen("style"), is_style),
            (screen.set_zoom, BadZoom, zoom), (screen.set_scroll, BadScroll, number), (lambda value: screen.set_view(value, None), BadZoom, zoom),
            (lambda value: screen.set_view(3, value), BadScroll, number), (screen.zoom_to, BadZoom, zoom),
        ):
            self.refuses_all(error, fits, work)
        for name, error, fits in (("page_now", lambda value: BadScreen("page"), is_page), ("zoom_now", BadZoom, zoom),
                                  ("style_now", lambda value: BadScreen("style"), is_style), ("scroll_now", BadScroll, number)):
            self.refuses_all(error, fits, lambda value: setattr(screen, name, value))
        self.refuses_all(NoBox, lambda value: isinstance(value, str) and value in ("a", "b"), lambda value: screen[value])
        self.refuses_all(lambda value: BadScreen("name"), guard_name, lambda value: screen.guard(value, None))
        for name in ("abcdefghi", "aB", "a1", "a b", "a\n", "_", "-"):
            self.refuses(BadScreen("name"), screen.guard, name, Claim.of(True))
        rules = (None, True, False, 0, 3, "", "true", (), (1,), [], {}, {"a": Claim.of(True)}, [Claim.of(True)])
        for rule in rules:
            self.refuses(BadScreen("rule"), screen.guard, "a", rule)
        self.refuses_all(lambda value: BadScreen("name"), lambda value: False, screen.unguard)
        self.assertEqual((screen.history, screen.moved, screen.guards, screen.zoom_now, screen.scroll_now), ((), (), (), 2, HALF))

    def test_shown(self):
        screen = screen_of()
        self.assertEqual((screen.shown(), list(screen.shown()), screen["b"]), ({"a": (0, 2), "b": (2, 3)}, ["a", "b"], (2, 3)))
        self.assertEqual((len(screen), list(screen), bool(Screen(Page(), Style(ByEdges())))), (2, ["a", "b"], False))
        for value in any_values():
            self.assertIs(value in screen, isinstance(value, str) and value in ("a", "b"))
        screen.shown()["a"] = None
        self.assertEqual(screen.shown()["a"], (0, 2))
        first = Screen(PAGE, Style(ByEdges()))
        self.assertEqual((first.zoom_now, first.scroll_now, type(first.zoom_now), type(first.scroll_now)), (1, 0, Ratio, Ratio))

    def test_properties_do_the_same(self):
        other = Page(Box("c", 1, 1))
        for name, value in (("page_now", other), ("style_now", Style(Within())), ("zoom_now", 3), ("scroll_now", Ratio(2, 3))):
            one, two = screen_of(), screen_of()
            setattr(one, name, value)
            self.assertIsNone(getattr(two, "set_" + name.removesuffix("_now"))(value))
            self.assertTrue(one == two and one.history == two.history == (WORDS[name],) and one.moved == two.moved)
            self.assertEqual(getattr(one, name), value)
        one = screen_of()
        one.zoom_now += 1
        self.assertEqual((one.zoom_now, type(one.zoom_now)), (Ratio(3, 2), Ratio))
        one.set_zoom(2)
        one.set_view(zoom=5, scroll=7)
        self.assertEqual((one.zoom_now, one.scroll_now, type(one.scroll_now), one.history), (5, 7, Ratio, ("zoom", "zoom", "view")))

    def test_drawn_deeds(self):
        kinds = {}
        for seed in range(130):
            source = random.Random(seed)
            boxes, default, ways = any_boxes(source), any_way(source), any_ways(source)
            place, moved = Fraction(source.randint(1, 20), 4), Fraction(source.randint(-8, 8), 4)
            screen = Screen(made_page(boxes), made_style(default, ways), ratio(place), ratio(moved))
            model = Model(boxes, default, ways, place, moved)
            for _ in range(14):
                kinds[self.deed(screen, model, source)] = True
                self.same_state(screen, model)
        self.assertEqual(len(kinds), 19, kinds)

    def same_state(self, screen, model):
        shown = model.shown()
        self.assertEqual((screen.shown(), list(screen.shown())), (shown, list(shown)))
        self.assertEqual((screen.moved, screen.guards), (model.moved, tuple(sorted(model.now["guards"]))))
        self.assertEqual(screen.history, tuple(word for word, _ in model.past))
        self.assertEqual((fraction(screen.zoom_now), fraction(screen.scroll_now)), (model.now["zoom"], model.now["scroll"]))
        self.assertEqual(screen.page_now, made_page(model.now["boxes"]))
        self.assertEqual(screen.style_now, made_style(*model.now["style"]))

    def deed(self, screen, model, source):
        """Does something to both; tells what it was."""
        kind = source.choice(("page", "style", "zoom", "zoom", "scroll", "view", "guard", "guard", "unguard", "undo", "undo",
                              "trial", "tried", "attempt", "twin"))
        if kind == "undo":
            if not model.past:
                self.refuses(NoChange(), screen.undo)
                return "no undo"
            self.assertEqual(screen.undo(), model.undo())
            return kind
        if kind in ("trial", "tried", "attempt"):
            return self.block(kind, screen, model, source)
        if kind == "twin":
            return self.twin(screen)
        if kind in ("guard", "unguard"):
            return self.guarded(kind, screen, model, source)
        return self.setting(kind, screen, model, source)

    def setting(self, kind, screen, model, source):
        place, moved = Fraction(source.randint(1, 24), 4), Fraction(source.randint(-8, 8), 4)
        boxes, style = any_boxes(source), (any_way(source), any_ways(source))
        changed = {"page": {"boxes": boxes}, "style": {"style": style}, "zoom": {"zoom": place}, "scroll": {"scroll": moved},
                   "view": {"zoom": place, "scroll": moved}}[kind]
        values = {"page": (made_page(boxes),), "style": (made_style(*style),), "zoom": (ratio(place),), "scroll": (ratio(moved),),
                  "view": (ratio(place), ratio(moved))}[kind]
        refused = model.refuses(changed)
        work = getattr(screen, "set_" + kind)
        if refused is not None:
            self.refuses(Refused(refused), work, *values)
            return "refused " + ("page" if kind == "page" else "other")
        self.assertIsNone(work(*values))
        model.put(kind, changed)
        return kind

    def guarded(self, kind, screen, model, source):
        kept = model.now["guards"]
        if kind == "unguard":
            if not kept:
                self.refuses(BadScreen("name"), screen.unguard, "a")
                return "no guard"
            name = source.choice(sorted(kept))
            rule = screen.unguard(name)
            self.assertTrue(callable(rule))
            model.put(kind, {"guards": {own: kept[own] for own in kept if own != name}})
            return kind
        name, box = source.choice(("a", "b", "way", "self")), source.choice(list(model.shown()))
        least = source.randint(-1, 3)
        pixels = model.shown()[box]
        rule = guard_rule(box, least, True)
        if pixels[1] - pixels[0] < least:
            self.refuses(Refused(name), screen.guard, name, rule)
            return "refused guard"
        self.assertIsNone(screen.guard(name, rule))
        model.put(kind, {"guards": {**kept, name: (box, least)}})
        return kind

    def block(self, kind, screen, model, source):
        """Deeds in a block that is taken back, or kept, or left by an error."""
        inner = model.copy()
        is_kept = kind == "trial" and source.random() < 0.5
        is_failed = source.random() < 0.4

        def work(same):
            self.assertIs(same, screen)
            for _ in range(2):
                self.setting(source.choice(("zoom", "style")), screen, inner, source)
                self.same_state(screen, inner)
            if is_failed:
                raise BadRatio("own")
            return inner

        if kind == "trial":
            try:
                with screen.trial() as same:
                    if is_kept:
                        self.assertIsNone(same.keep())
                    work(same.screen)
            except BadRatio:
                self.assertTrue(is_failed)
        elif is_failed:
            error = BadScreen("work") if kind == "attempt" else BadRatio("own")
            self.refuses(error, getattr(screen, kind), work)
        else:
            self.assertIs(getattr(screen, kind)(work), inner)
        if not is_failed and (is_kept or kind == "attempt"):
            model.now, model.past, model.moved = inner.now, inner.past, inner.moved
            return kind + " kept"
        return kind

    def twin(self, screen):
        other = screen.twin()
        self.assertTrue(other == screen and other.history == () and other.moved == () and other.guards == screen.guards)
        self.refuses(NoChange(), other.undo)
        before = screen.shown()
        for name in other.guards:
            other.unguard(name)
        other.set_view(9, 1)
        self.assertEqual(screen.shown(), before)
        self.assertFalse(other == screen)
        return "twin"


class GuardTest(Case):
    def test_claims_and_functions(self):
        screen = screen_of()
        rule = screen.page_now and Drawn.size(1).at_least(1)
        self.assertIsNone(screen.guard("claim", rule))
        self.assertIsNone(screen.guard(rule=wide_enough, name="abcdefgh"))
        self.assertEqual((screen.guards, screen.history, screen.moved), (("abcdefgh", "claim"), ("guard", "guard"), ()))
        self.refuses(Refused("abcdefgh"), screen.set_zoom, Ratio(1, 10))
        self.assertIs(screen.unguard(name="abcdefgh"), wide_enough)
        self.refuses(Refused("claim"), screen.set_zoom, Ratio(1, 10))
        self.assertIs(screen.unguard("claim"), rule)
        self.assertIsNone(screen.set_zoom(Ratio(1, 10)))
        self.assertEqual(screen.history, ("guard", "guard", "unguard", "unguard", "zoom"))
        self.refuses(Refused("claim"), screen.guard, "claim", rule)

    def test_a_guard_in_the_place_of_another(self):
        screen = screen_of()
        screen.guard("a", Drawn.size(1).at_least(1))
        screen.guard("a", Drawn.size(1).at_most(1))
        self.assertIsNone(screen.set_zoom(Ratio(1, 10)))
        self.refuses(Refused("a"), screen.set_zoom, 9)
        self.refuses(Refused("a"), screen.guard, "a", Drawn.size(1).at_least(1))
        self.assertEqual((screen.undo(), screen.undo()), ("zoom", "guard"))
        self.assertIsNone(screen.set_zoom(9))

    def test_functions_that_give_no_claim(self):
        screen = screen_of()
        for value in any_values():
            if not isinstance(value, Claim):
                self.refuses(Refused("a"), screen.guard, "a", lambda drawing: value)

        def fails(drawing):
            raise NoBox("x")

        with self.assertRaises(Refused) as caught:
            screen.guard("b", fails)
        self.assertEqual((caught.exception.name, type(caught.exception.__cause__), caught.exception.__cause__.name), ("b", NoBox, "x"))

        def breaks(drawing):
            raise KeyError("x")

        self.assertRaises(KeyError, screen.guard, "b", breaks)
        self.assertEqual((screen.guards, screen.history), ((), ()))
        told = []

        def later(drawing):
            told.append(drawing)
            return drawing.width("b").at_least(0)

        screen.guard("d", later)
        self.assertTrue(told and all(isinstance(drawing, Drawing) and drawing.page == PAGE for drawing in told))
        with self.assertRaises(Refused) as caught:
            screen.set_page(Page(Box("a", 0, 1)))
        self.assertEqual((caught.exception.name, type(caught.exception.__cause__)), ("d", NoBox))
        screen.guard("c", lambda drawing: Claim.of(len(drawing) == 2))
        self.refuses(Refused("c"), screen.set_page, Page(Box("a", 0, 1)))
        self.assertEqual((screen.page_now, screen.history), (PAGE, ("guard", "guard")))
        self.assertIsNone(screen.set_page(Page(Box("b", 0, 1), Box("q", 0, 1))))
        self.assertEqual(screen.moved, ("b", "q", "a"))

    def test_errors_in_their_order(self):
        screen = screen_of()
        screen.guard("a", Drawn.size(1).at_most(1))
        self.refuses(BadZoom(0), screen.set_view, 0, None)
        self.refuses(BadScroll(None), screen.set_view, 9, None)
        box = Box("last", 30, 60)
        for at in range(24):
            box = Box("abcdefghijklmnopqrstuvwxyz"[at], at + 1, 50, box)
        deep = Page(*box.inner)
        self.refuses(TooMany("terms", 24), Screen, deep, Style(Within()))
        screen.set_style(Style(Within()))
        screen.set_page(Page())
        self.refuses(TooMany("terms", 24), screen.set_page, deep)
        screen.set_style(Style(ByEdges()))
        screen.set_page(deep)
        self.refuses(TooMany("terms", 24), screen.set_style, Style(Within()))
        self.refuses(TooMany("terms", 24), setattr, screen, "style_now", Style(Within()))
        self.refuses(BadZoom("x"), Screen, deep, Style(Within()), "x")
        self.assertEqual(screen.history, ("guard", "style", "page", "style", "page"))

    def test_first_guard_ascending(self):
        screen = screen_of(1)
        for name in ("c", "a", "b"):
            screen.guard(name, Drawn.size(1).at_most({"a": 5, "b": 2, "c": 2}[name]))
        self.refuses(Refused("b"), screen.set_zoom, 4)
        self.refuses(Refused("a"), screen.set_zoom, 40)


class ZoomToTest(Case):
    def test_nearest(self):
        screen = screen_of()
        self.assertIsNone(screen.zoom_to(7))
        self.assertEqual((screen.zoom_now, screen.history), (7, ("zoom",)))
        screen.guard("a", Drawn.size(1).at_most(9))
        screen.guard("b", lambda drawing: Drawn.size(2).at_least(3))
        screen.zoom_to(zoom=Ratio(1, 3))
        self.assertEqual((screen.zoom_now, type(screen.zoom_now), screen.moved), (Ratio(5, 4), Ratio, ("a", "b")))
        self.refuses(NoZoom(20), screen.zoom_to, 20)
        big = Ratio(LONG, 3)
        with self.assertRaises(NoZoom) as caught:
            screen.zoom_to(big)
        self.assertIs(caught.exception.zoom, big)
        screen.zoom_to(5)
        self.assertEqual((screen.zoom_now, screen.history), (5, ("zoom", "guard", "guard", "zoom", "zoom")))

    def test_at_this_scroll(self):
        screen = Screen(PAGE, Style(ByEdges()), 1, HALF)
        screen.guard("a", lambda drawing: drawing.left("b").at_least(drawing.left("a") + 3))
        screen.zoom_to(Ratio(1, 10))
        self.assertEqual((screen.zoom_now, screen["b"][0] - screen["a"][0]), (1, 3))
        screen.set_scroll(0)
        screen.zoom_to(Ratio(1, 10))
        self.assertEqual(screen.zoom_now, Ratio(5, 6))

    def test_refusals(self):
        screen = screen_of(1)
        state = {"claim": Claim.of(True)}
        screen.guard("c", Drawn.size(1).at_most(3))
        screen.guard("b", lambda drawing: state["claim"])
        screen.guard("a", lambda drawing: Claim.of(True))
        state["claim"] = None
        self.refuses(Refused("b"), screen.zoom_to, 2)
        self.refuses_all(BadZoom, zoom, lambda value: zoom(value) or screen.zoom_to(value))
        state["claim"] = (Drawn.size(2000) - Drawn.size(1)).at_most(0)
        self.refuses(TooMany("cuts", 1000), screen.zoom_to, 2)
        state["claim"] = Claim.of(False)
        self.refuses(NoZoom(2), screen.zoom_to, 2)
        state["claim"] = Drawn.size(1).above(3)
        self.refuses(NoZoom(2), screen.zoom_to, 2)
        self.assertEqual((screen.zoom_now, screen.history), (1, ("guard", "guard", "guard")))

    def test_too_many_marks(self):
        # Each set comes round soon; both together do so after more than 3,000 marks.
        screen = screen_of(Ratio(1, 10000))
        for name, unit in (("a", 2003), ("b", 1999)):
            screen.guard(name, (2 * Drawn.size(unit)).at_most(Drawn.size(2 * unit)))
        self.refuses(TooMany("marks", 3000), screen.zoom_to, 3)
        screen.guard("c", (Drawn.size(2000) - Drawn.size(1)).at_most(10))
        self.refuses(TooMany("cuts", 1000), screen.zoom_to, 3)
        screen.unguard("c")
        screen.unguard("a")
        self.assertIsNone(screen.zoom_to(3))
        self.assertEqual(screen.zoom_now, 3)

    def test_errors_of_functions(self):
        screen = screen_of(1)
        state = {"work": lambda: Claim.of(True)}
        screen.guard("b", lambda drawing: state["work"]())

        def fails():
            raise NoBox("q")

        state["work"] = fails
        with self.assertRaises(Refused) as caught:
            screen.zoom_to(2)
        self.assertEqual((caught.exception.name, type(caught.exception.__cause__)), ("b", NoBox))
        state["work"] = lambda: {}["x"]
        self.assertRaises(KeyError, screen.zoom_to, 2)
        self.assertRaises(KeyError, screen.set_zoom, 2)
        self.assertEqual((screen.zoom_now, screen.history, screen.undo()), (1, ("guard",), "guard"))


class BlockTest(Case):
    def test_trial(self):
        screen = screen_of()
        screen.set_zoom(1)
        trial = screen.trial()
        for _ in range(2):
            with trial as same:
                self.assertIs(same.screen, screen)
                screen.set_zoom(5)
                screen.guard("a", Drawn.size(1).at_least(1))
                screen.undo()
                screen.undo()
                screen.undo()
                self.assertEqual((screen.history, screen.zoom_now), ((), HALF))
            self.assertEqual((screen.history, screen.zoom_now, screen.guards, screen.moved), (("zoom",), 1, (), ("a", "b")))
        with trial as same:
            same.keep()
            screen.set_zoom(2)
        self.assertEqual((screen.history, screen.zoom_now), (("zoom", "zoom"), 2))
        with trial:
            screen.set_zoom(7)
        self.assertEqual((screen.history, screen.zoom_now), (("zoom", "zoom"), 2))
        same.keep()
        with trial:
            screen.set_zoom(7)
        self.assertEqual(screen.zoom_now, 2)

    def test_errors_leave_a_trial(self):
        screen = screen_of()
        for error in (KeyError("x"), NoBox("x")):
            with self.assertRaises(type(error)) as caught:
                with screen.trial() as same:
                    screen.set_zoom(3)
                    same.keep()
                    raise error
            self.assertIs(caught.exception, error)
            self.assertEqual((screen.zoom_now, screen.history), (HALF, ()))

    def test_trials_within_trials(self):
        for outer_keeps, inner_keeps, is_same in product((False, True), (False, True), (False, True)):
            screen = screen_of()
            trial = screen.trial()
            with trial as same:
                screen.set_zoom(2)
                if outer_keeps:
                    same.keep()
                with (trial if is_same else screen.trial()) as inner:
                    screen.set_zoom(3)
                    if inner_keeps:
                        inner.keep()
                self.assertEqual(screen.zoom_now, 3 if inner_keeps else 2)
                screen.set_scroll(1)
            kept = ("zoom", "zoom", "scroll") if inner_keeps else ("zoom", "scroll")
            self.assertEqual(screen.history, kept if outer_keeps else ())

    def test_one_trial_within_itself(self):
        for keeps in product((False, True), repeat=3):
            for is_left in (False, True):
                screen = screen_of()
                trial = screen.trial()
                trial.keep()
                try:
                    with trial as first:
                        screen.set_zoom(2)
                        with trial as second:
                            screen.set_zoom(3)
                            with trial as third:
                                screen.set_zoom(4)
                                if keeps[2]:
                                    third.keep()
                            self.assertEqual(screen.history, ("zoom",) * (2 + keeps[2]))
                            if keeps[1]:
                                second.keep()
                        inner = 1 + keeps[1] * (1 + keeps[2])
                        self.assertEqual(screen.history, ("zoom",) * inner)
                        if keeps[0]:
                            first.keep()
                        if is_left:
                            raise NoBox("own")
                except NoBox:
                    pass
                self.assertEqual(screen.history, ("zoom",) * (inner if keeps[0] and not is_left else 0))

    def test_tried(self):
        screen = screen_of()
        self.assertEqual(screen.tried(lambda same: (same.set_zoom(3), same["a"], same.history)), (None, (0, 9), ("zoom",)))
        self.assertEqual((screen.zoom_now, screen.history, screen.moved), (HALF, (), ()))

        def work(same):
            same.set_zoom(3)
            raise KeyError("own")

        self.assertRaises(KeyError, screen.tried, work)
        self.assertRaises(KeyError, screen.attempt, work)
        self.assertEqual((screen.zoom_now, screen.history, screen.moved), (HALF, (), ()))
        self.refuses(Refused("a"), screen.tried, lambda same: same.guard("a", Claim.of(False)))

    def test_attempt(self):
        screen = screen_of()
        screen.set_scroll(1)

        def work(same):
            same.set_zoom(3)
            same.set_scroll(0)
            return same.undo()

        self.assertEqual(screen.attempt(work=work), "scroll")
        self.assertEqual((screen.zoom_now, screen.scroll_now, screen.history, screen.moved), (3, 1, ("scroll", "zoom"), ("a", "b")))
        with self.assertRaises(BadScreen) as caught:
            screen.attempt(lambda same: (same.undo(), same.undo(), same.undo()))
        self.assertEqual((caught.exception.part, type(caught.exception.__cause__)), ("work", NoChange))
        self.assertEqual((screen.zoom_now, screen.scroll_now, screen.history), (3, 1, ("scroll", "zoom")))
        self.assertEqual(screen.attempt(lambda same: None), None)

        class Own(SnapError):
            pass

        def fails(same):
            raise Own("x")

        with self.assertRaises(BadScreen) as caught:
            screen.attempt(fails)
        self.assertIs(type(caught.exception.__cause__), Own)

    def test_moved(self):
        screen = screen_of()
        screen.set_page(Page(Box("z", 3, 3), Box("a", 0, 3), Box("k", 0, 1)))
        self.assertEqual(screen.moved, ("z", "k", "b"))
        screen.set_scroll(0)
        self.assertEqual((screen.moved, screen.history), ((), ("page", "scroll")))
        self.assertEqual((screen.undo(), screen.moved), ("scroll", ()))
        self.assertEqual((screen.undo(), screen.moved), ("page", ("b", "z", "k")))
        screen.set_zoom(Ratio(11, 20))
        self.assertEqual(screen.moved, ())

    def test_equal_screens(self):
        one = screen_of()
        for other in (screen_of(1), screen_of(HALF, 1), Screen(PAGE, Style(InRow()), HALF), Screen(Page(), Style(ByEdges()), HALF),
                      PAGE, None, one.shown()):
            self.assertFalse(one == other)
        other = screen_of(3)
        other.set_zoom(HALF)
        self.assertTrue(one == other and one.history != other.history)
        one.guard("a", Drawn.size(1).at_least(1))
        self.assertFalse(one == other)
        other.guard("b", Drawn.size(1).at_least(1))
        self.assertFalse(one == other)
        other.unguard("b")
        other.guard("a", Drawn.size(1).at_least(1))
        self.assertTrue(one == other)
        one.guard("f", wide_enough)
        other.guard("f", lambda drawing: wide_enough(drawing))
        self.assertFalse(one == other)
        other.guard("f", wide_enough)
        self.assertTrue(one == other and one.twin() == other)


class ScreenTextTest(Case):
    def test_text(self):
        screen = Screen(Page(), Style(ByEdges()), LONG, Ratio(-1, LONG))
        self.assertEqual(screen_text(screen), f"page -\nstyle edges from 1/2 from 1/2\nzoom {LONG}\nscroll -1/{LONG}")
        screen = screen_of()
        screen.guard("way", Claim.of(True))
        screen.guard("b", Drawn.size(1, Rounding.all_up()).at_least(1) & Drawn.plain(1).at_least(0))
        self.assertEqual(screen_text(screen=screen).split("\n"), [
            "page a 0 3 ; b 3 3", "style edges from 1/2 from 1/2", "zoom 1/2", "scroll 0", "guard b 1 - size 1 above 0 <= 0", "guard way true"])
        screen.guard("c", wide_enough)
        self.refuses(BadScreen("guards"), screen_text, screen)
        screen.unguard("c")
        self.assertEqual(len(screen_text(screen).split("\n")), 6)

    def test_wrong_values(self):
        self.refuses_all(lambda value: BadScreen("screen"), lambda value: isinstance(value, Screen), screen_text)


if __name__ == "__main__":
    unittest.main()
