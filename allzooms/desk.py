"""A desk: names for drawn things, claims, pages and styles, and lines about them."""

from allzooms.compared import Parted, alike, row_range
from allzooms.desk_words import KINDS, read_line
from allzooms.drawn import Claim, Drawn
from allzooms.errors import NoThing, Unlike
from allzooms.most import Endless, greatest, least
from allzooms.page_words import is_name
from allzooms.pages import Page
from allzooms.sights import Sight, seen
from allzooms.still import zooms_at
from allzooms.views import judge, share, zooms_always, zooms_ever
from allzooms.ways import draw


def kind_of(thing):
    """The word for the kind of a thing."""
    if isinstance(thing, Drawn):
        return "drawn"
    if isinstance(thing, Claim):
        return "claim"
    return "page" if isinstance(thing, Page) else "style"


def is_of(thing, kind):
    """Whether a thing is of a kind that a form tells [desk_words.py]."""
    if kind == "worth":
        return kind_of(thing) in ("drawn", "claim")
    return kind in ("thing", kind_of(thing))


def made_text(thing):
    """What a text tells."""
    return thing


def made_side(page, style, name, side):
    """A side of a box."""
    drawing = draw(page, style)
    return drawing.left(name) if side == "left" else drawing.right(name)


def made_most(one, other):
    """The claim that the one is at most the other one."""
    return one.at_most(other)


def made_below(one, other):
    """The claim that the one is below the other one."""
    return one.below(other)


def made_equal(one, other):
    """The claim that both are equal."""
    return one.equals(other)


def made_and(one, other):
    """Both claims."""
    return one & other


def made_or(one, other):
    """One of both claims."""
    return one | other


def made_not(claim):
    """The opposite of a claim."""
    return ~claim


def made_sum(one, many, other):
    """The one and so many times the other one."""
    return one + other * many


def told_at(thing, zoom, scroll):
    """What something drawn, or a claim, is at a view."""
    found = thing(zoom, scroll)
    if isinstance(thing, Claim):
        return "yes" if found else "no"
    return str(found)


def told_pixels(page, style, zoom, scroll):
    """The pixels of all boxes."""
    drawing = draw(page, style)
    pixels = drawing(zoom, scroll)
    rows = [f"{name} {left} {right}" for name, (left, right) in pixels.items()]
    return " ; ".join(rows) or "-"


def told_judge(claim):
    """Whether a claim holds at all views."""
    found = judge(claim)
    return "always" if found else f"broken {found.zoom} {found.scroll}"


def told_share(claim):
    """The share of a claim."""
    return str(share(claim))


def told_zooms(claim, where):
    """The zooms at which a claim holds, at a scroll, at every one or at some."""
    if where == "every":
        return str(zooms_always(claim))
    if where == "some":
        return str(zooms_ever(claim))
    return str(zooms_at(claim, where))


def told_greatest(drawn):
    """The greatest worth."""
    return bound_text(greatest(drawn))


def told_least(drawn):
    """The least worth."""
    return bound_text(least(drawn))


def bound_text(found):
    """What is told of a bound of worths."""
    if isinstance(found, Endless):
        return f"endless {found.gain}"
    return f"reached {found.number}" if found.is_reached else f"near {found.number}"


def told_alike(page, style, other):
    """Whether a page is drawn alike by two styles."""
    found = alike(draw(page, style), draw(page, other))
    if isinstance(found, Parted):
        return f"parted {found.name} {found.side} {found.zoom} {found.scroll}"
    return "alike"


def told_row(rounding, many):
    """How far a row by sizes is from a row by edges."""
    low, high = row_range(rounding, many)
    return f"{low} {high}"


def told_seen(pairs):
    """A view at which edges are seen at pixels."""
    sights = [Sight(unit, pixel) for unit, pixel in pairs]
    found = seen(*sights)
    return f"seen {found.zoom} {found.scroll}" if found else "never"


def told_thing(thing):
    """The kind of a thing, and its text."""
    return f"{kind_of(thing)} {thing}"


# What makes the thing that the name behind the first word of a line stands for from now on.
MAKERS = {
    "drawn": made_text,
    "claim": made_text,
    "page": made_text,
    "style": made_text,
    "side": made_side,
    "most": made_most,
    "below": made_below,
    "equal": made_equal,
    "and": made_and,
    "or": made_or,
    "not": made_not,
    "sum": made_sum,
}

# What answers a line that makes nothing.
TELLERS = {
    "at": told_at,
    "pixels": told_pixels,
    "judge": told_judge,
    "share": told_share,
    "zooms": told_zooms,
    "greatest": told_greatest,
    "least": told_least,
    "alike": told_alike,
    "row": told_row,
    "seen": told_seen,
    "show": told_thing,
}


class Things:
    """What the names of a desk stand for at one time. It never changes: a line makes a new one."""

    def __init__(self, by_name):
        self.by_name = by_name
        self.in_order = tuple(sorted([str(name) for name in by_name]))

    def with_thing(self, name, thing):
        """The same, but that a name stands for this, or, for None, for nothing."""
        others = {other: self.by_name[other] for other in self.in_order if other != name}
        return Things(others if thing is None else {**others, name: thing})


class LineDone:
    """A line that can be taken back: its name, what this stood for ahead of it, and the line ahead of it."""

    def __init__(self, name, thing, earlier):
        self.name = name
        self.thing = thing
        self.earlier = earlier
        self.many = 1 if earlier is None else earlier.many + 1


class Desk:
    """Names for things, and lines about them."""

    def __init__(self):
        self.things = Things({})
        self.last_done = None

    def say(self, line):
        """Does a line, and returns its answer."""
        word, parts = read_line(line)
        told = [self.told_part(symbol, part) for symbol, part in parts]
        if word == "undo":
            return self.take_back()
        if word == "forget":
            return self.put(parts[0][1], None)
        if word in MAKERS:
            maker = MAKERS[word]
            inner = told[1:]
            return self.put(told[0], maker(*inner))
        teller = TELLERS[word]
        return teller(*told)

    def __call__(self, line):
        return self.say(line)

    def told_part(self, symbol, part):
        """What a part of a line tells: the thing for a name that is read, else itself."""
        if symbol not in KINDS:
            return part
        thing = self[part]
        if not is_of(thing, symbol):
            raise Unlike(part)
        return thing

    def put(self, name, thing):
        """Goes on by a line that makes or exchanges a thing, or, for None, forgets it."""
        self.last_done = LineDone(name, self.things.by_name.get(name), self.last_done)
        self.things = self.things.with_thing(name, thing)
        return "ok"

    def take_back(self):
        """Takes the last such line back."""
        done = self.last_done
        if done is None:
            return "nothing"
        self.things = self.things.with_thing(done.name, done.thing)
        self.last_done = done.earlier
        return "ok"

    def run(self, *lines):
        """The answers to lines; if one raises an error, the desk is as before the first one."""
        things, done = self.things, self.last_done
        try:
            answers = []
            for line in lines:
                answers.append(self.say(line))
            things, done = self.things, self.last_done
            return answers
        finally:
            self.things, self.last_done = things, done

    def __getitem__(self, at):
        if at not in self:
            raise NoThing(at)
        return self.things.by_name[at]

    def __contains__(self, x):
        return is_name(x) and x in self.things.by_name

    def __len__(self):
        return len(self.things.in_order)

    def __iter__(self):
        return iter(self.things.in_order)

    def __bool__(self):
        return True

    @property
    def changes(self):
        """How many lines can be taken back."""
        return 0 if self.last_done is None else self.last_done.many

    def lines(self):
        """Lines that make the same things, by ascending names."""
        by_name = self.things.by_name
        return [f"{kind_of(by_name[name])} {name} {by_name[name]}" for name in self.things.in_order]

    def __eq__(self, other):
        return isinstance(other, Desk) and self.things.by_name == other.things.by_name
