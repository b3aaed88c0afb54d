"""Boxes, and pages of them."""

from allzooms.errors import BadBox, BadNumber, BadPage, NoBox, TooMany
from allzooms.page_words import box_rows, check_unlike, is_name, page_rows
from allzooms.ratios import is_integer
from allzooms.words import split_words


def box_of(row):
    """The Box of a row that was read, made from the innermost boxes on outwards."""
    waiting = [row]
    rows = []
    while waiting:
        outer = waiting.pop()
        rows.append(outer)
        waiting.extend(outer.inner)
    made = []
    for outer in reversed(list(rows)):
        # Now the boxes within are the last ones that were made, in their order.
        many = len(made) - len(outer.inner)
        inner = made[many:]
        made = [*made[:many], Box(outer.name, outer.offset, outer.units, *inner)]
    return made[0]


def with_inner(box, inner):
    """A box with other boxes within."""
    return Box(box.name, box.offset, box.units, *inner)


def boxes_without(boxes, name):
    """Boxes without the one of a name, wherever it stands among or within them."""
    kept = []
    for box in boxes:
        if name not in box.names_inside:
            kept.append(box)
        elif box.name != name:
            kept.append(with_inner(box, boxes_without(box.inner, name)))
    return kept


def boxes_with(boxes, added, name):
    """Boxes with one more box, the last one within the box of a name."""
    kept = []
    for box in boxes:
        if box.name == name:
            kept.append(with_inner(box, (*box.inner, added)))
        elif name in box.names_inside:
            kept.append(with_inner(box, boxes_with(box.inner, added, name)))
        else:
            kept.append(box)
    return kept


def boxes_scaled(boxes, times):
    """Boxes with all offsets and lengths so many times."""
    scaled = []
    for box in boxes:
        inner = boxes_scaled(box.inner, times)
        scaled.append(Box(box.name, box.offset * times, box.units * times, *inner))
    return scaled


def boxes_text(boxes):
    """The text of boxes beside one another."""
    return " ; ".join([str(box) for box in boxes])


def names_of(boxes):
    """The names of boxes, each ahead of those within it."""
    return tuple([name for box in boxes for name in box.names_inside])


def check_names(names):
    """Refuses the names of a page if one is told twice, or if they are too many."""
    check_unlike(names)
    if len(names) > Page.MOST_BOXES:
        raise TooMany("boxes", Page.MOST_BOXES)


class Box:
    """A box: its offset from the begin of what is around it, its length, and the boxes within."""

    def __init__(self, name, offset, units, *inner):
        if not is_name(name):
            raise BadBox("name")
        if not is_integer(offset):
            raise BadBox("offset")
        if not is_integer(units) or units < 0:
            raise BadBox("units")
        for box in inner:
            if not isinstance(box, Box):
                raise BadBox("inner")
        names = (name,) + names_of(inner)
        check_unlike(names)
        self.name = name
        self.offset = offset
        self.units = units
        self.inner = inner
        self.names_inside = names
        self.told = f"{name} {offset} {units}"
        if inner:
            self.told = f"{self.told} ( {boxes_text(inner)} )"

    @classmethod
    def read(cls, text):
        """The box that has this text."""
        return box_of(box_rows(split_words(text), 0, False)[0])

    def __eq__(self, other):
        return isinstance(other, Box) and self.told == other.told

    def __str__(self):
        return str(self.told)


class Page:
    """Boxes beside one another."""

    MOST_BOXES = 24

    def __init__(self, *boxes):
        for at, box in enumerate(boxes):
            if not isinstance(box, Box):
                raise BadPage(at)
        names = names_of(boxes)
        check_names(names)
        self.boxes = boxes
        self.all_names = names
        # For each name its box, the unit at which it begins, and the name of the box around it.
        rows = {}
        waiting = [(box, 0, None) for box in boxes]
        while waiting:
            box, begin, outer = waiting.pop()
            rows[box.name] = (box, begin + box.offset, outer)
            waiting.extend([(inner, begin + box.offset, box.name) for inner in box.inner])
        self.rows = rows

    @classmethod
    def read(cls, text):
        """The page that has this text."""
        boxes = [box_of(row) for row in page_rows(split_words(text), 0)]
        return Page(*boxes)

    @property
    def names(self):
        """The names of all boxes, each ahead of those within it."""
        return self.all_names

    def __iter__(self):
        return iter(self.all_names)

    def __len__(self):
        return len(self.all_names)

    def __contains__(self, x):
        return is_name(x) and x in self.rows

    def __getitem__(self, at):
        box, begin, _ = self.row(at)
        return begin, begin + box.units

    def row(self, name):
        """What is kept of the box of a name."""
        if name not in self:
            raise NoBox(name)
        return self.rows[name]

    def box(self, name):
        """The box of a name."""
        return self.row(name)[0]

    def around(self, name):
        """The name of the box around a box, None for an outermost one."""
        return self.row(name)[2]

    def within(self, name):
        """The page of the boxes within a box, with their offsets."""
        inner = self.box(name).inner
        return Page(*inner)

    def some(self, first, last):
        """The page of some outermost boxes, from an index up to another one, without this one."""
        if not is_integer(first) or first < 0 or first > len(self.boxes):
            raise BadNumber(first)
        if not is_integer(last) or last < first or last > len(self.boxes):
            raise BadNumber(last)
        boxes = self.boxes[first:last]
        return Page(*boxes)

    def with_box(self, box, name=None):
        """The page with one more box, the last one within the box of a name, or of the page."""
        if not isinstance(box, Box):
            raise BadPage("box")
        end = len(self.all_names)
        if name is not None:
            end = len(self.box(name).names_inside) + self.all_names.index(name)
        # The boxes around the new one would find names that are told twice in another order.
        check_names(self.all_names[:end] + box.names_inside + self.all_names[end:])
        boxes = (*self.boxes, box) if name is None else boxes_with(self.boxes, box, name)
        return Page(*boxes)

    def __sub__(self, other):
        self.row(other)
        boxes = boxes_without(self.boxes, other)
        return Page(*boxes)

    def __mul__(self, other):
        if not is_integer(other) or other < 1:
            raise BadNumber(other)
        boxes = boxes_scaled(self.boxes, other)
        return Page(*boxes)

    def __rmul__(self, other):
        return self * other

    def __eq__(self, other):
        return isinstance(other, Page) and self.boxes == other.boxes

    def __str__(self):
        return str(boxes_text(self.boxes) or "-")
