"""Ways to draw the sides of boxes, styles, and what comes out."""

from allzooms.checks import check_view
from allzooms.drawn import Drawn
from allzooms.errors import BadDrawing, BadPage, BadStyle, BadText, BadWay, NoBox
from allzooms.page_words import is_name
from allzooms.pages import Page
from allzooms.ratios import Ratio, is_integer
from allzooms.roundings import Rounding
from allzooms.way_words import style_rows, way_row
from allzooms.words import split_words


def checked_rounding(rounding, part):
    """A rounding, half up for None."""
    if rounding is None:
        return Rounding.half_up()
    if not isinstance(rounding, Rounding):
        raise BadWay(part)
    return rounding


def way_of(row):
    """The way of a row that was read."""
    if row.kind == "edges":
        way = ByEdges(row.roundings[0], row.roundings[1])
    elif row.kind == "within":
        way = Within(row.roundings[0])
    elif row.kind == "carried":
        way = Carried(row.roundings[0])
    else:
        way = InRow(row.roundings[0])
    for pixels in reversed(list(row.leasts)):
        way = AtLeast(way, pixels)
    return way


def style_of(rows):
    """The style of rows that were read."""
    way = way_of(rows[0])
    ways = {name: way_of(row) for name, row in rows[1]}
    return Style(way, **ways)


def way_sides(way, spot):
    """The two sides that a way tells of a box, whatever ways stand within it."""
    leasts = []
    inner = way
    while isinstance(inner, AtLeast):
        leasts.append(inner.pixels)
        inner = inner.way
    left, right = inner.sides(spot)
    for pixels in reversed(list(leasts)):
        right = left + ((right - left) | pixels)
    return left, right


def all_sides(page, style):
    """A dict from the names of all boxes to the pairs of their sides."""
    sides = {}
    ahead = {None: None}
    for name in page.names:
        outer = page.around(name)
        around = Drawn.edge(0, style[name].first_rounding) if outer is None else sides[outer][0]
        beside = ahead[outer]
        row_end = None if beside is None else sides[beside.name][1]
        spot = Spot(page[name], page.box(name), around, beside, row_end)
        sides[name] = way_sides(style[name], spot)
        ahead[outer] = page.box(name)
        ahead[name] = None
    return sides


class Spot:
    """Where a box stands: its units in the page, what is around it, and the box ahead of it in its row."""

    def __init__(self, ends, box, around, beside, row_end):
        self.first_unit = ends[0]
        self.last_unit = ends[1]
        self.offset = box.offset
        self.units = box.units
        self.around_left = around
        self.skip = None if beside is None else box.offset - beside.offset - beside.units
        self.row_end = row_end


class Way:
    """The base of the kinds of ways."""

    @classmethod
    def read(cls, text):
        """The way of any kind that has this text."""
        words = split_words(text)
        return way_of(way_row(words))


class ByEdges(Way):
    """Each side by itself."""

    def __init__(self, begins=None, ends=None):
        self.begins = checked_rounding(begins, "begins")
        self.ends = self.begins if ends is None else checked_rounding(ends, "ends")
        self.first_rounding = self.begins

    def __eq__(self, other):
        return isinstance(other, ByEdges) and self.begins == other.begins and self.ends == other.ends

    def __str__(self):
        return f"edges {self.begins} {self.ends}"

    def sides(self, spot):
        """Both sides of a box."""
        return Drawn.edge(spot.first_unit, self.begins), Drawn.edge(spot.last_unit, self.ends)


class Within(Way):
    """The offset and the length of a box, each rounded, behind what is around it."""

    def __init__(self, rounding=None):
        self.rounding = checked_rounding(rounding, "rounding")
        self.first_rounding = self.rounding

    def __eq__(self, other):
        return isinstance(other, Within) and self.rounding == other.rounding

    def __str__(self):
        return f"within {self.rounding}"

    def sides(self, spot):
        """Both sides of a box."""
        left = spot.around_left + Drawn.size(spot.offset, self.rounding)
        return left, left + Drawn.size(spot.units, self.rounding)


class Carried(Way):
    """Both offsets of a box, each rounded, behind what is around it."""

    def __init__(self, rounding=None):
        self.rounding = checked_rounding(rounding, "rounding")
        self.first_rounding = self.rounding

    def __eq__(self, other):
        return isinstance(other, Carried) and self.rounding == other.rounding

    def __str__(self):
        return f"carried {self.rounding}"

    def sides(self, spot):
        """Both sides of a box."""
        left = spot.around_left + Drawn.size(spot.offset, self.rounding)
        return left, spot.around_left + Drawn.size(spot.offset + spot.units, self.rounding)


class InRow(Way):
    """Gaps and lengths, each rounded, one behind another."""

    def __init__(self, rounding=None):
        self.rounding = checked_rounding(rounding, "rounding")
        self.first_rounding = self.rounding

    def __eq__(self, other):
        return isinstance(other, InRow) and self.rounding == other.rounding

    def __str__(self):
        return f"row {self.rounding}"

    def sides(self, spot):
        """Both sides of a box."""
        if spot.skip is None:
            left = spot.around_left + Drawn.size(spot.offset, self.rounding)
        else:
            left = spot.row_end + Drawn.size(spot.skip, self.rounding)
        return left, left + Drawn.size(spot.units, self.rounding)


class AtLeast(Way):
    """As another way, but with a least width in pixels."""

    def __init__(self, way, pixels):
        if not isinstance(way, Way):
            raise BadWay("way")
        if not is_integer(pixels) or pixels < 1:
            raise BadWay("pixels")
        self.way = way
        self.pixels = pixels
        self.first_rounding = way.first_rounding
        # Ways may stand very deep within one another.
        self.told = f"least {pixels} {way}"

    def __eq__(self, other):
        return isinstance(other, AtLeast) and self.told == other.told

    def __str__(self):
        return str(self.told)


class Style:
    """A way for all boxes, and ways of their own for some names."""

    def __init__(self, way, **by_name):
        if not isinstance(way, Way):
            raise BadStyle("way")
        for name in by_name:
            if not is_name(name) or not isinstance(by_name[name], Way):
                raise BadStyle(name)
        self.way = way
        self.own_names = tuple(sorted([str(name) for name in by_name]))
        self.own_ways = {name: by_name[name] for name in self.own_names}
        self.told = " ; ".join([str(way), *[f"{name} {by_name[name]}" for name in self.own_names]])

    @classmethod
    def read(cls, text):
        """The style that has this text."""
        words = split_words(text)
        style = style_of(style_rows(words, 0))
        if str(style) != text:
            raise BadText(0, len(words))
        return style

    def __getitem__(self, at):
        if not is_name(at):
            raise BadStyle("name")
        return self.own_ways.get(at, self.way)

    def __contains__(self, x):
        return is_name(x) and x in self.own_ways

    def __len__(self):
        return len(self.own_names)

    def __iter__(self):
        return iter(self.own_names)

    def __bool__(self):
        return True

    def with_way(self, name, way):
        """The style with another way for a name."""
        if not is_name(name):
            raise BadStyle("name")
        if not isinstance(way, Way):
            raise BadStyle("way")
        ways = {**self.own_ways, name: way}
        return Style(self.way, **ways)

    def without(self, name):
        """The style without the way of its own that a name has."""
        if name not in self:
            raise NoBox(name)
        ways = {own: self.own_ways[own] for own in self.own_names if own != name}
        return Style(self.way, **ways)

    def __or__(self, other):
        if not isinstance(other, Style):
            raise BadStyle("other")
        ways = {**self.own_ways, **other.own_ways}
        return Style(self.way, **ways)

    def __eq__(self, other):
        return isinstance(other, Style) and self.told == other.told

    def __str__(self):
        return str(self.told)


def draw(page, style):
    """What comes out of a page that is drawn by a style."""
    if not isinstance(page, Page):
        raise BadPage("page")
    if not isinstance(style, Style):
        raise BadStyle("style")
    return Drawing(page, style)


class Drawing:
    """The sides of all boxes of a page, each something drawn."""

    def __init__(self, page, style):
        self.page = page
        self.style = style
        self.by_name = all_sides(page, style)

    def __getitem__(self, at):
        if at not in self.page:
            raise NoBox(at)
        return self.by_name[at]

    @property
    def names(self):
        """The names of all boxes, as of the page."""
        return self.page.all_names

    def __iter__(self):
        return iter(self.by_name)

    def __len__(self):
        return len(self.by_name)

    def __contains__(self, x):
        return x in self.page

    def left(self, name):
        """The left side of a box."""
        return self[name][0]

    def right(self, name):
        """The right side of a box."""
        return self[name][1]

    def width(self, name):
        """The right side of a box less its left side."""
        return self.right(name) - self.left(name)

    def gap(self, one, other):
        """The left side of the other box less the right side of the one."""
        right = self.right(one)
        return self.left(other) - right

    def drift(self, name, side="left"):
        """A side of a box less its true place."""
        left, right = self[name]
        first, last = self.page[name]
        if side == "left":
            return left - Drawn.true(first, 1)
        if side == "right":
            return right - Drawn.true(last, 1)
        raise BadDrawing("side")

    def apart(self, one, other):
        """The claim that no pixel belongs to both boxes."""
        left, right = self[one]
        later_left, later_right = self[other]
        is_apart = right.at_most(later_left) | later_right.at_most(left)
        return is_apart | right.at_most(left) | later_right.at_most(later_left)

    def inside(self, one, other):
        """The claim that the one box lies within the other one."""
        left, right = self[one]
        outer_left, outer_right = self[other]
        return left.at_least(outer_left) & right.at_most(outer_right)

    def __call__(self, zoom, scroll=0):
        check_view(zoom, scroll)
        return self.pixels_at(Ratio.of(zoom), Ratio.of(scroll))

    def pixels_at(self, zoom, scroll):
        """A dict from the names to the pairs of pixels at a view of two Ratios."""
        pixels = {}
        for name in self.by_name:
            left, right = self.by_name[name]
            pixels[name] = (left.worth(zoom, scroll).over, right.worth(zoom, scroll).over)
        return pixels

    def __eq__(self, other):
        return isinstance(other, Drawing) and self.page == other.page and self.style == other.style
