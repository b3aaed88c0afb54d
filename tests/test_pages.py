import random
import unittest

from allzooms.errors import BadBox, BadNumber, BadPage, BadText, NoBox, SnapError, Taken, TooMany
from allzooms.pages import Box, Page
from tests.check import LONG, Case, any_values, boxname, integer
from tests.grammar import first_wrong, mutated

WORDS = ("a", "b", "(", ")", ";", "-", "0", "1", "-1", "01", "self", "way", "abcdefghi", "A", "1/2", "", "c 1 2", "zz")


def tree(source, names, depth=3):
    """Boxes as nested tuples (name, offset, units, inner), with names from a list."""
    found = []
    while names and source.random() < 0.7:
        name = names.pop()
        inner = tree(source, names, depth - 1) if depth and source.random() < 0.6 else ()
        found.append((name, source.randint(-9, 9), source.randint(0, 9), inner))
    return tuple(found)


def box(row):
    return Box(row[0], row[1], row[2], *map(box, row[3]))


def page(rows):
    return Page(*map(box, rows))


def told(rows):
    """The text of boxes."""
    return " ; ".join(f"{name} {offset} {units}" + (f" ( {told(inner)} )" if inner else "") for name, offset, units, inner in rows)


def flat(rows, begin=0, outer=None):
    """Rows (name, begin, end, name of the box around, row), each ahead of those within."""
    for row in rows:
        place = begin + row[1]
        yield row[0], place, place + row[2], outer, row
        yield from flat(row[3], place, row[0])


def drawn_tree(seed):
    source = random.Random(seed)
    names = [letter * many for letter in "abcdefgh" for many in (1, 2, 8)]
    source.shuffle(names)
    return source, tree(source, names)


def without(rows, name):
    return tuple((row[0], row[1], row[2], without(row[3], name)) for row in rows if row[0] != name)


def with_row(rows, added, name):
    return tuple((row[0], row[1], row[2], row[3] + (added,) if row[0] == name else with_row(row[3], added, name)) for row in rows)


def scaled(rows, times):
    return tuple((name, offset * times, units * times, scaled(inner, times)) for name, offset, units, inner in rows)


class BoxTest(Case):
    def test_attributes(self):
        inner = Box("b", -LONG, LONG)
        made = Box("a", -1, 0, inner, Box("c", 0, 1))
        self.assertEqual((made.name, made.offset, made.units, made.inner), ("a", -1, 0, (inner, Box("c", 0, 1))))
        self.assertIs(made.inner[0], inner)
        self.assertEqual(Box(units=2, offset=1, name="abcdefgh").inner, ())

    def test_wrong_parts(self):
        for value in any_values() + ["abcdefghi", "a b", "aB", "a1"]:
            if not boxname(value):
                self.refuses(BadBox("name"), Box, value, None, None, None)
            if not integer(value):
                self.refuses(BadBox("offset"), Box, "a", value, None, None)
            if not (integer(value) and value >= 0):
                self.refuses(BadBox("units"), Box, "a", 0, value, None)
            if not isinstance(value, Box):
                self.refuses(BadBox("inner"), Box, "a", 0, 1, Box("a", 0, 1), value)
        self.refuses(Taken("a"), Box, "a", 0, 1, Box("b", 0, 1, Box("a", 0, 1)), Box("b", 0, 1))
        self.refuses(Taken("b"), Box, "a", 0, 1, Box("b", 0, 1), Box("b", 0, 1), Box("a", 0, 1))

    def test_equal(self):
        one = Box("a", 0, 1, Box("b", 0, 1), Box("c", 0, 1))
        self.assertEqual(one, Box("a", 0, 1, Box("b", 0, 1), Box("c", 0, 1)))
        for other in (Box("a", 0, 1, Box("c", 0, 1), Box("b", 0, 1)), Box("a", 0, 1, Box("b", 0, 1, Box("c", 0, 1))), Box("a", 0, 1)):
            self.assertNotEqual(one, other)
        for value in any_values():
            self.assertIs(Box("a", 0, 1) == value, isinstance(value, Box))
            self.assertIs(Page() == value, isinstance(value, Page) and len(value) == 0)


class PageTest(Case):
    def test_wrong_parts(self):
        good = Box("a", 0, 1)
        for value in any_values():
            if not isinstance(value, Box):
                self.refuses(BadPage(1), Page, good, value, good)
                self.refuses(BadPage(0), Page, value, None)
        self.refuses(Taken("b"), Page, Box("a", 0, 1, Box("b", 0, 1)), Box("b", 0, 1, Box("c", 0, 1)), Box("a", 0, 1))
        many = [Box(letter, 0, 1) for letter in "abcdefghijklmnopqrstuvwx"]
        self.assertEqual((len(Page(*many)), Page.MOST_BOXES), (24, 24))
        self.refuses(TooMany("boxes", 24), Page, *many, Box("y", 0, 1))
        self.refuses(TooMany("boxes", 24), Page, *many[1:], Box("y", 0, 1, Box("z", 0, 1)))
        self.refuses(Taken("a"), Page, *many, Box("y", 0, 1), Box("a", 0, 1))
        self.refuses(BadPage(25), Page, *many, Box("a", 0, 1), None)

    def test_against_plain_reckoning(self):
        for seed in range(80):
            source, rows = drawn_tree(seed)
            made = page(rows)
            flat_rows = list(flat(rows))
            names = tuple(row[0] for row in flat_rows)
            self.assertEqual((made.names, tuple(made), len(made), bool(made)), (names, names, len(names), bool(names)))
            self.assertEqual(made.boxes, tuple(map(box, rows)))
            self.assertEqual((str(made), made), (told(rows) or "-", Page.read(text=told(rows) or "-")))
            for name, begin, end, outer, row in flat_rows:
                self.assertEqual((made[name], made.around(name)), ((begin, end), outer))
                self.assertEqual((made.box(name=name), str(made.box(name))), (box(row), told((row,))))
                self.assertEqual((made.within(name), Box.read(str(box(row)))), (page(row[3]), box(row)))
                self.assertIn(name, made)
                self.assertEqual(made - name, page(without(rows, name)))
                if len(names) < 24:
                    added = ("new", 3, 4, ())
                    self.assertEqual(made.with_box(box(added), name), page(with_row(rows, added, name)))
                    self.assertEqual(made.with_box(name=None, box=box(added)), page(rows + (added,)))
            for times in (1, 3, LONG):
                self.assertEqual((made * times, times * made), (page(scaled(rows, times)),) * 2)
            for first in range(len(rows) + 1):
                for last in range(first, len(rows) + 1):
                    self.assertEqual(made.some(first=first, last=last), page(rows[first:last]))
            self.assertEqual(str(made), told(rows) or "-")

    def test_names_of_any_kind(self):
        made = Page(Box("a", 0, 1), Box("b", 0, 1))
        for value in any_values():
            self.assertIs(value in made, value == "a" and isinstance(value, str))
            if value != "a":
                for work in (lambda at: made[at], made.box, made.around, made.within, lambda at: made - at):
                    self.refuses(NoBox(value), work, value)
            if value is not None and value != "a":
                self.refuses(NoBox(value), made.with_box, Box("a", 0, 1), value)
            if not isinstance(value, Box):
                self.refuses(BadPage("box"), made.with_box, value, "x")

    def test_with_box_refused(self):
        made = Page(Box("a", 0, 1, Box("b", 0, 1), Box("c", 0, 1)), Box("d", 0, 1))
        new = Box("x", 0, 1, Box("d", 0, 1), Box("c", 0, 1), Box("a", 0, 1))
        self.refuses(Taken("a"), made.with_box, new, "b")
        self.refuses(Taken("c"), made.with_box, Box("x", 0, 1, Box("d", 0, 1), Box("c", 0, 1)), "b")
        self.refuses(Taken("d"), made.with_box, Box("x", 0, 1, Box("d", 0, 1), Box("c", 0, 1)))
        self.refuses(Taken("d"), made.with_box, Box("d", 0, 1), "c")
        self.refuses(Taken("b"), made.with_box, Box("x", 0, 1, Box("b", 0, 1), Box("a", 0, 1)), "c")
        self.refuses(Taken("c"), made.with_box, Box("x", 0, 1, Box("d", 0, 1), Box("c", 0, 1)), "b")
        full = Page(*[Box(letter, 0, 1) for letter in "abcdefghijklmnopqrstuvwx"])
        self.refuses(TooMany("boxes", 24), full.with_box, Box("y", 0, 1), "c")
        self.refuses(TooMany("boxes", 24), full.with_box, Box("y", 0, 1))
        self.refuses(Taken("x"), full.with_box, Box("y", 0, 1, Box("x", 0, 1)), "c")
        self.refuses(NoBox("y"), full.with_box, Box("a", 0, 1), "y")

    def test_numbers_refused(self):
        made = Page(Box("a", 0, 1), Box("b", 0, 1))
        for value in any_values() + [3]:
            if not (integer(value) and 0 <= value <= 2):
                self.refuses(BadNumber(value), made.some, value, None)
                self.refuses(BadNumber(value), made.some, 0, value)
            if not (integer(value) and value >= 1):
                self.refuses(BadNumber(value), lambda times: made * times, value)
                if type(value).__module__ == "builtins":
                    self.refuses(BadNumber(value), lambda times: times * made, value)
        self.refuses(BadNumber(0), made.some, 1, 0)
        self.assertEqual(made.some(2, 2), Page())

    def test_read(self):
        for seed in range(80):
            source, rows = drawn_tree(seed)
            for kind, goal, text in ((Page, "PAGE", told(rows) or "-"), *[(Box, "BOX", told((row,))) for row in rows]):
                self.assertIsNone(first_wrong(goal, text))
                self.assertEqual(str(kind.read(text)), text)
                for _ in range(12):
                    near = mutated(source, text, WORDS)
                    wrong = first_wrong(goal, near)
                    if wrong is not None:
                        self.refuses(BadText(0, wrong), kind.read, near)
                        continue
                    names = [word for word in near.split(" ") if word.isalpha()]
                    twice = [name for at, name in enumerate(names) if name in names[:at]]
                    if twice:
                        self.refuses(Taken(twice[0]), kind.read, near)
                    else:
                        self.assertEqual(str(kind.read(near)), near)
        for kind in (Page, Box):
            self.refuses_all(lambda value: BadText(0, 0), lambda value: isinstance(value, str), kind.read)

    def test_read_edges(self):
        for kind, text, word in (
            (Page, "", 0), (Page, "- a", 1), (Page, "a 0 -1", 2), (Page, "a 0 1 ;", 4), (Page, "a 0 1 ( )", 4), (Page, "a 0", 2),
            (Page, "a 0 1 ( b 0 1", 7), (Page, "a 0 1 )", 3), (Page, "self 0 1", 0), (Page, "a 0 1 ( way 0 1 )", 4), (Box, "-", 0),
            (Box, "a 0 1 ; b 0 1", 3), (Box, "a 0 1 ( b 0 1 ) ; c 0 1", 8), (Box, "a 1/2 1", 1), (Box, "a 0 1 ", 3),
            (Page, "a 0 1 ( " * 300, 1200), (Page, "a 0 1 ( a 0 1", 7), (Page, "a 0 01", 2), (Page, "a -0 1", 1),
        ):
            self.refuses(BadText(0, word), kind.read, text)
        self.refuses(Taken("b"), Page.read, "a 0 1 ( b 0 1 ; c 0 1 ( b 0 1 ; c 0 1 ) ) ; a 0 1")
        names = [first + second for first in "abcdefghijklmnopq" for second in "abcdefghijklmnopqrst"]
        deep = " ( ".join(name + " 0 1" for name in names[:300]) + " )" * 299
        self.assertEqual(str(Box.read(deep)), deep)
        self.refuses(TooMany("boxes", 24), Page.read, deep)
        self.refuses(TooMany("boxes", 24), Page, Box.read(deep))
        self.refuses(Taken("aa"), Page.read, deep + " ; aa 0 1")

    def test_errors_are_of_the_package(self):
        for work in (lambda: Page(1), lambda: Page()["a"], lambda: Page.read(None)):
            with self.assertRaises(SnapError):
                work()


if __name__ == "__main__":
    unittest.main()
