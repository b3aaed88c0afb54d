"""Screens: pages that are shown at a zoom and a scroll, and change by deeds."""

from allzooms.checks import check_view, is_zoom
from allzooms.errors import BadScreen, BadZoom, NoChange, NoZoom, SnapError
from allzooms.guards import check_guard, check_guards, check_rule, guard_claim, is_guard_name, names_in_order
from allzooms.pages import Page
from allzooms.ratios import Ratio
from allzooms.still import zooms_at
from allzooms.ways import Style, draw
from allzooms.zooms import Zooms


def check_page(page):
    """Refuses what is no page of a screen."""
    if not isinstance(page, Page):
        raise BadScreen("page")


def check_style(style):
    """Refuses what is no style of a screen."""
    if not isinstance(style, Style):
        raise BadScreen("style")


def names_moved(before, after):
    """The names of boxes whose pixels are other ones, or that are new; then of those that went."""
    moved = [name for name in after if name not in before or before[name] != after[name]]
    return tuple(moved + [name for name in before if name not in after])


class State:
    """How a screen is at one time. States never change: a deed makes a new one."""

    def __init__(self, drawing, zoom, scroll, rules):
        self.drawing = drawing
        self.by_name = drawing.by_name
        self.zoom = zoom
        self.scroll = scroll
        self.rules = rules
        # The words of the deeds so far, the state ahead of the last one, and what moved at last.
        self.deeds = ()
        self.earlier = None
        self.shifted = ()

    def pixels_now(self):
        """What is shown: a new dict from names to pairs of pixels."""
        return self.drawing.pixels_at(self.zoom, self.scroll)

    def is_like(self, other):
        """Whether another state is alike, whatever deeds led to both."""
        if self.zoom != other.zoom or self.scroll != other.scroll:
            return False
        return self.drawing == other.drawing and self.rules == other.rules

    def with_deeds(self, deeds, earlier, shifted):
        """This state, behind these deeds."""
        state = State(self.drawing, self.zoom, self.scroll, self.rules)
        state.deeds = deeds
        state.earlier = earlier
        state.shifted = shifted
        return state


class Kept:
    """A state that a trial goes back to."""

    def __init__(self, state):
        self.state = state


class Outer:
    """What a trial goes back to behind a block that was entered within its own block."""

    def __init__(self, begun, source, outer):
        self.begun = begun
        self.source = source
        self.outer = outer


class Trial:
    """A block of deeds that is taken back at its end, unless it is kept."""

    def __init__(self, screen):
        self.screen = screen
        self.begun = None
        # What has the state at the end of the block: the one ahead of it, or the screen itself.
        self.source = None
        self.outer = None

    def __enter__(self):
        self.outer = Outer(self.begun, self.source, self.outer)
        self.begun = self.screen.state
        self.source = Kept(self.begun)
        return self

    def __exit__(self, kind, value, trace):
        if kind is None:
            self.screen.state = self.source.state
        else:
            self.screen.state = self.begun
        self.begun = self.outer.begun
        self.source = self.outer.source
        self.outer = self.outer.outer

    def keep(self):
        """Lets the deeds of the block stay, if no error leaves it."""
        self.source = self.screen


class Screen:
    """A page that is shown in a style, at a zoom and a scroll."""

    def __init__(self, page, style, zoom=1, scroll=0):
        check_page(page)
        check_style(style)
        check_view(zoom, scroll)
        self.state = State(draw(page, style), Ratio.of(zoom), Ratio.of(scroll), {})

    def put(self, word, state):
        """Goes on to a state by a deed."""
        shifted = names_moved(self.state.pixels_now(), state.pixels_now())
        self.state = state.with_deeds((*self.state.deeds, word), self.state, shifted)

    def put_guarded(self, word, drawing, zoom, scroll):
        """Goes on by a deed that sets something, if all guards hold behind it."""
        state = State(drawing, zoom, scroll, self.state.rules)
        check_guards(state)
        self.put(word, state)

    @property
    def page_now(self):
        """The page that is shown."""
        return self.state.drawing.page

    @page_now.setter
    def page_now(self, value):
        self.set_page(value)

    @property
    def style_now(self):
        """The style in which it is shown."""
        return self.state.drawing.style

    @style_now.setter
    def style_now(self, value):
        self.set_style(value)

    @property
    def zoom_now(self):
        """The zoom, a Ratio."""
        return self.state.zoom

    @zoom_now.setter
    def zoom_now(self, value):
        self.set_zoom(value)

    @property
    def scroll_now(self):
        """The scroll, a Ratio."""
        return self.state.scroll

    @scroll_now.setter
    def scroll_now(self, value):
        self.set_scroll(value)

    def set_page(self, page):
        """Shows another page."""
        check_page(page)
        drawing = draw(page, self.state.drawing.style)
        self.put_guarded("page", drawing, self.state.zoom, self.state.scroll)

    def set_style(self, style):
        """Shows the page in another style."""
        check_style(style)
        drawing = draw(self.state.drawing.page, style)
        self.put_guarded("style", drawing, self.state.zoom, self.state.scroll)

    def set_zoom(self, zoom):
        """Shows the page at another zoom."""
        check_view(zoom, 0)
        self.put_guarded("zoom", self.state.drawing, Ratio.of(zoom), self.state.scroll)

    def set_scroll(self, scroll):
        """Shows the page at another scroll."""
        check_view(1, scroll)
        self.put_guarded("scroll", self.state.drawing, self.state.zoom, Ratio.of(scroll))

    def set_view(self, zoom, scroll):
        """Shows the page at another zoom and scroll, both at once."""
        check_view(zoom, scroll)
        self.put_guarded("view", self.state.drawing, Ratio.of(zoom), Ratio.of(scroll))

    def shown(self):
        """A dict from the names of the boxes, in the order of the page, to pairs of pixels."""
        return self.state.pixels_now()

    def __getitem__(self, at):
        left, right = self.state.drawing[at]
        zoom, scroll = self.state.zoom, self.state.scroll
        return left.worth(zoom, scroll).over, right.worth(zoom, scroll).over

    def __contains__(self, x):
        return x in self.state.drawing

    def __len__(self):
        return len(self.state.drawing)

    def __iter__(self):
        return iter(self.state.by_name)

    def guard(self, name, rule):
        """Keeps a guard, which must hold now and behind all deeds to come."""
        if not is_guard_name(name):
            raise BadScreen("name")
        check_rule(rule)
        check_guard(name, rule, self.state)
        self.put_rules("guard", {**self.state.rules, name: rule})

    def unguard(self, name):
        """Takes a guard away, and returns its rule."""
        if not is_guard_name(name) or name not in self.state.rules:
            raise BadScreen("name")
        rule = self.state.rules[name]
        self.put_rules("unguard", {own: self.state.rules[own] for own in self.state.rules if own != name})
        return rule

    def put_rules(self, word, rules):
        """Goes on by a deed that makes other guards."""
        self.put(word, State(self.state.drawing, self.state.zoom, self.state.scroll, rules))

    @property
    def guards(self):
        """The ascending tuple of the names of the guards."""
        return names_in_order(self.state.rules)

    def zoom_to(self, zoom):
        """Shows the page at the nearest zoom at which all guards hold at this scroll."""
        if not is_zoom(zoom):
            raise BadZoom(zoom)
        claims = [guard_claim(name, self.state.rules[name], self.state.drawing) for name in self.guards]
        fitting = Zooms.everything()
        for zooms in [zooms_at(claim, self.state.scroll) for claim in claims]:
            fitting = fitting & zooms
        found = fitting.nearest(zoom)
        if found is None or not found[1]:
            raise NoZoom(zoom)
        self.put_guarded("zoom", self.state.drawing, found[0], self.state.scroll)

    @property
    def moved(self):
        """The names of the boxes whose pixels the last deed or undoing changed, then of those that went."""
        return self.state.shifted

    @property
    def history(self):
        """The words of the deeds that can be taken back."""
        return self.state.deeds

    def undo(self):
        """Takes the last deed back, and returns its word."""
        earlier = self.state.earlier
        if earlier is None:
            raise NoChange()
        word = self.state.deeds[-1]
        shifted = names_moved(self.state.pixels_now(), earlier.pixels_now())
        self.state = earlier.with_deeds(earlier.deeds, earlier.earlier, shifted)
        return word

    def trial(self):
        """What a with statement enters to take back what is done in its block."""
        return Trial(self)

    def tried(self, work):
        """What work(screen) returns; what it did is taken back."""
        begun = self.state
        try:
            return work(self)
        finally:
            self.state = begun

    def attempt(self, work):
        """What work(screen) returns; what it did is taken back if it fails."""
        last = self.state
        try:
            found = work(self)
            last = self.state
            return found
        except SnapError as error:
            raise BadScreen("work") from error
        finally:
            self.state = last

    def twin(self):
        """An equal screen without deeds, that goes its own way."""
        state = self.state
        screen = Screen(state.drawing.page, state.drawing.style, state.zoom, state.scroll)
        screen.state = State(state.drawing, state.zoom, state.scroll, state.rules)
        return screen

    def __eq__(self, other):
        return isinstance(other, Screen) and self.state.is_like(other.state)
