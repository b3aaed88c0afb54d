"""What all tests use: exact errors, and values of all kinds."""

import unittest

from allzooms.choices import Tight
from allzooms.compared import Alike, Parted
from allzooms.desk import Desk
from allzooms.drawn import Claim, Drawn
from allzooms.errors import SnapError
from allzooms.most import Endless, Most
from allzooms.pages import Box, Page
from allzooms.ratios import Ratio
from allzooms.roundings import Rounding
from allzooms.screens import Screen
from allzooms.sights import Agreed, Seen, Sight, Unseen
from allzooms.views import Always, Broken
from allzooms.ways import AtLeast, ByEdges, InRow, Style, draw
from allzooms.zooms import Zooms

LONG = 10 ** 31 - 1


def any_values():
    """Values of all kinds that a caller may put in the place of an argument."""
    return [
        None, True, False, 0, 1, -1, 2, 3, -7, LONG, -LONG, 10 ** 60 - 1, "", "a", "self", "way", "1", "1/2", "A",
        "from 1/2", "a 0 1", "\n", (), (1,), (True, False), [], [1, 2], {}, {"a": 1}, len, any_values,
        lambda number: number, Ratio(1, 2), Ratio(0), Ratio(-3), Ratio(LONG, LONG - 1), Rounding.half_up(),
        Drawn.edge(1), Drawn.plain(2), Drawn.true(1, 1), Claim.of(True), Drawn.size(1).at_most(1),
        Zooms.everything(), Zooms.between(1, 2), Box("a", 0, 1), Page(), Page(Box("b", 0, 1)), SnapError,
        ((1, True, False),), [[1], {"x": (2, None)}], Always((Ratio(0), Ratio(1)), (0,)), Always(None, "x"),
        Broken(Ratio(1), Ratio(0)), Broken(None, []), Endless(1), Most(Ratio(1), True, 1, 0, (Ratio(0), Ratio(1)), (0,)),
        ByEdges(), AtLeast(InRow(), 3), Style(ByEdges()), Style(InRow(), a=ByEdges()), draw(Page(), Style(ByEdges())),
        draw(Page(Box("a", 0, 1)), Style(InRow())), Screen(Page(Box("a", 0, 1)), Style(InRow())),
        Alike({}), Alike([]), Parted("a", "left", Ratio(1), Ratio(0)), Parted([], {}, None, "x"), Sight(1, 0), Sight(2, 3, None, False),
        Seen(Ratio(1), Ratio(0)), Seen(True, "x"), Unseen(((0, "low", 1), (None, "zoom", 2))), Unseen([None]),
        Agreed(Ratio(1), (0,), (Ratio(1),)), Agreed(None, [], {}), Tight(1, Always((0, 1), (0,)), None), Tight("x", [], ()), Desk(),
    ]


def integer(value):
    return isinstance(value, int) and not isinstance(value, bool)


def number(value):
    return integer(value) or isinstance(value, Ratio)


def zoom(value):
    return number(value) and value > 0


def boxname(value):
    letters = isinstance(value, str) and 1 <= len(value) <= 8 and all("a" <= letter <= "z" for letter in value)
    return letters and value not in ("self", "way")


class Case(unittest.TestCase):
    def refuses(self, error, *work):
        """Whether work, a function and its arguments, raises just this error, arguments included."""
        try:
            work[0](*work[1:])
        except SnapError as raised:
            self.assertIs(type(raised), type(error), (raised, work))
            self.assertEqual(list(vars(raised)), list(vars(error)))
            for name, told in vars(error).items():
                found = getattr(raised, name)
                self.assertTrue(found is told or type(found) is type(told) and found == told, (name, found, told))
        else:
            self.fail(f"{error!r} is not raised by {work}")

    def refuses_all(self, error, fits, work):
        """Whether work raises an error for each value that does not fit; error makes it of the value."""
        for value in any_values():
            if not fits(value):
                self.refuses(error(value), work, value)

    def same(self, value, told):
        """Whether a value is a Ratio with this text."""
        self.assertIsInstance(value, Ratio)
        self.assertEqual(str(value), told)
