import random
import unittest
from fractions import Fraction

from allzooms.errors import BadScroll, BadSight, BadZoom, TooMany
from allzooms.look_sights import shows_most_seen, shows_seen
from allzooms.ratios import Ratio
from allzooms.roundings import Rounding
from allzooms.sights import Agreed, Seen, Sight, Unseen, most_seen, scroll_range, seen, still_range, zoom_range
from allzooms.views import Verdict
from tests.check import LONG, Case, any_values, integer, number, zoom
from tests.plain_sights import any_sights, bar_is_right, indexes_told, is_seen, made_sight, most_told, needed_marks
from tests.plain_sights import scrolls_told, still_told, zooms_told
from tests.reckon import fraction, ratio

HALF, UP, DOWN = Rounding.half_up(), Rounding.all_up(), Rounding.all_down()
PLAIN_HALF = (Fraction(1, 2), True)
LIMIT = TooMany("sights", 40)


def is_sight(value):
    return isinstance(value, Sight)


def plain(quadruple):
    """A quadruple of a range, in fractions."""
    if quadruple is None:
        return None
    low, is_low, high, is_high = quadruple
    return (None if low is None else fraction(low), is_low, None if high is None else fraction(high), is_high)


class SightTest(Case):
    def test_wrong_arguments(self):
        for value in any_values():
            if not integer(value):
                self.refuses(BadSight("unit"), Sight, value, None, 5, 5)
                self.refuses(BadSight("pixel"), Sight, 3, value, 5, 5)
            if value is not None and not isinstance(value, Rounding):
                self.refuses(BadSight("rounding"), Sight, 3, 4, value, 5)
            if not isinstance(value, bool):
                self.refuses(BadSight("moves"), Sight, 3, 4, None, value)

    def test_parts(self):
        sight = Sight(moves=False, rounding=UP, pixel=-3, unit=LONG)
        self.assertEqual((sight.unit, sight.pixel, sight.rounding, sight.moves), (LONG, -3, UP, False))
        self.assertEqual((Sight(1, 2).rounding, Sight(1, 2).moves, Sight(1, 2, None, True) == Sight(1, 2, HALF)), (HALF, True, True))
        for other in (Sight(2, 2), Sight(1, 1), Sight(1, 2, UP), Sight(1, 2, Rounding(Ratio(1, 2), False)), Sight(1, 2, None, False), None, (1, 2)):
            self.assertFalse(Sight(1, 2) == other)
        self.assertTrue(Sight(0, 0) and Sight(0, 1)(1) is False)

    def test_views(self):
        for seed in range(300):
            source = random.Random(seed)
            for sight in any_sights(source):
                view = Fraction(source.randint(1, 40), 12), Fraction(source.randint(-40, 40), 12)
                found = made_sight(sight)(ratio(view[0]), ratio(view[1]))
                self.assertIs(found, is_seen(sight, *view))
        sight = Sight(2, 3, Rounding(Ratio(1, 2), False))
        for at, is_in in ((Ratio(5, 4), False), (Ratio(251, 200), True), (Ratio(7, 4), True), (Ratio(701, 400), False)):
            self.assertEqual((sight(at), sight(scroll=0, zoom=at), sight(at - 1, 2)), (is_in,) * 3)
        self.assertTrue(Sight(2, 3, None, False)(Ratio(3, 2), LONG))
        self.refuses_all(BadZoom, zoom, lambda value: sight(value, None))
        self.refuses_all(BadScroll, number, lambda value: sight(1, value))


class SeenTest(Case):
    def test_wrong_arguments(self):
        one = Sight(10, 7)
        works = (seen, zoom_range, lambda *sights: scroll_range(1, *sights), lambda *sights: still_range(0, *sights), lambda *sights: most_seen(0, *sights),
                 lambda *sights: shows_seen(sights, None), lambda *sights: shows_most_seen(0, list(sights), Agreed(None, None, None)))
        for work in works:
            for value in any_values():
                if not is_sight(value):
                    self.refuses(BadSight(0), work, value, None)
                    self.refuses(BadSight(2), work, one, one, value, one, [])
                    self.refuses(BadSight(40), work, *[one] * 40, value)
                    self.refuses(BadSight(45), work, *[one] * 45, value)
            self.refuses(LIMIT, work, *[one] * 41)
            work(*[one] * 40)
        self.assertEqual(seen(*[one] * 40), seen(one))

    def test_views_ahead_of_sights(self):
        crowd = [Sight(1, 1)] * 41
        for work, error, fits in ((scroll_range, BadZoom, zoom), (still_range, BadScroll, number), (most_seen, BadScroll, number)):
            for rest in ((None,), crowd, (), (Sight(1, 1),)):
                self.refuses_all(error, fits, lambda value: work(value, *rest))
        for sights in (None, [None], crowd, []):
            self.refuses_all(BadScroll, number, lambda value: shows_most_seen(value, sights, None))
        for value in any_values():
            if not isinstance(value, (list, tuple)):
                self.refuses(BadSight("sights"), shows_seen, value, None)
                self.refuses(BadSight("sights"), shows_most_seen, 0, value, None)
            elif len(value):
                self.refuses(BadSight(0), shows_seen, value, None)
        self.refuses(LIMIT, shows_seen, crowd, Seen(1, 0))
        self.refuses(LIMIT, shows_most_seen, 0, tuple(crowd), None)
        self.assertIs(shows_seen(value=Seen(1, 0), sights=[]), True)
        self.assertIs(shows_most_seen(value=Agreed(1, (), ()), sights=(), scroll=0), True)

    def test_no_sights(self):
        found = seen()
        self.assertTrue(found and found.zoom > 0 and isinstance(found.zoom, Ratio) and isinstance(found.scroll, Ratio))
        self.assertEqual((zoom_range(), scroll_range(3), still_range(-1)), ((0, False, None, False), (None, False, None, False), (0, False, None, False)))
        self.assertEqual((most_seen(0).indexes, shows_most_seen(0, [], most_seen(0))), ((), True))

    def test_by_plain_views(self):
        kinds = {}
        for seed in range(700):
            source = random.Random(seed)
            sights = any_sights(source)
            made = [made_sight(sight) for sight in sights]
            told = zooms_told(sights)
            self.assertEqual(plain(zoom_range(*made)), told, (seed, sights))
            found = seen(*made)
            self.assertEqual(bool(found), told is not None)
            if found:
                self.assertIs(type(found), Seen)
                self.assertTrue(isinstance(found.zoom, Ratio) and isinstance(found.scroll, Ratio) and found.zoom > 0)
                self.assertEqual(len(indexes_told(sights, fraction(found.zoom), fraction(found.scroll))), len(sights))
                kinds["seen"] = kinds.get("seen", 0) + 1
            else:
                self.assertIs(type(found), Unseen)
                self.assertTrue(bar_is_right(sights, found.rows), (seed, sights, found.rows))
                key = len(found.rows), None in [row[0] for row in found.rows]
                kinds[key] = kinds.get(key, 0) + 1
            self.assertIs(shows_seen(made, found), True)
            self.assertEqual(seen(*made), found)
            places = [place for place in (told or ())[::2] if place] + [Fraction(source.randint(1, 30), 12)]
            for place in places:
                self.assertEqual(plain(scroll_range(ratio(place), *made)), scrolls_told(sights, place), (seed, sights, place))
            scroll = Fraction(source.randint(-20, 20), source.choice((1, 4, 6)))
            self.assertEqual(plain(still_range(ratio(scroll), *made)), still_told(sights, scroll), (seed, sights, scroll))
            self.assertEqual(made, [made_sight(sight) for sight in sights])
        self.assertEqual(set(kinds), {"seen", (1, False), (2, False), (2, True), (3, False), (3, True)})
        self.assertTrue(min(kinds.values()) > 3 and kinds["seen"] > 150, kinds)

    def test_one_row(self):
        for sight, rows in (((0, 5, PLAIN_HALF, False), [(0, "low")]), ((0, -1, PLAIN_HALF, False), [(0, "high")]),
                            ((0, 1, (Fraction(1, 2), False), False), [(0, "low")]), ((0, 0, (Fraction(0), False), False), None),
                            ((0, 1, (Fraction(0), False), False), [(0, "low")]), ((0, 0, (Fraction(1), True), False), None),
                            ((0, -1, (Fraction(1), True), False), [(0, "high")])):
            found = seen(made_sight(sight))
            self.assertEqual(None if found else [row[:2] for row in found.rows], rows)
            self.assertTrue(found or bar_is_right([sight], found.rows))

    def test_a_row_and_that_of_the_zoom(self):
        for sight, is_there in (((10, -9, PLAIN_HALF, False), False), ((10, 0, PLAIN_HALF, False), True), ((10, 0, (Fraction(0), False), False), False),
                                ((10, 0, (Fraction(1), True), False), True), ((10, -1, (Fraction(1), True), False), False),
                                ((-10, 1, PLAIN_HALF, False), False), ((-10, 0, PLAIN_HALF, False), True), ((-7, 0, (Fraction(1), True), False), False),
                                ((-7, 0, (Fraction(0), False), False), True), ((10, -9, PLAIN_HALF, True), True)):
            found = seen(made_sight(sight))
            self.assertEqual(bool(found), is_there, sight)
            if not is_there:
                self.assertEqual({row[:1] + row[1:2] for row in found.rows} & {(None, "zoom")}, {(None, "zoom")})
                self.assertTrue(len(found.rows) == 2 and bar_is_right([sight], found.rows))

    def test_two_rows(self):
        for sights in ([(10, 7, PLAIN_HALF, True), (10, 9, PLAIN_HALF, True)], [(10, 8, PLAIN_HALF, True), (10, 7, PLAIN_HALF, True)],
                       [(3, 1, PLAIN_HALF, False), (6, 4, PLAIN_HALF, False)], [(LONG, 10 * LONG, PLAIN_HALF, True), (LONG, 10 * LONG + 1, PLAIN_HALF, True)]):
            found = seen(*[made_sight(sight) for sight in sights])
            self.assertTrue(len(found.rows) == 2 and bar_is_right(sights, found.rows))
            self.assertEqual(zoom_range(*[made_sight(sight) for sight in sights]), None)

    def test_three_rows(self):
        for sights in ([(10, 7, PLAIN_HALF, True), (30, 22, PLAIN_HALF, True), (40, 28, PLAIN_HALF, True)],
                       [(0, 0, PLAIN_HALF, True), (10, -9, PLAIN_HALF, True)], [(0, 0, PLAIN_HALF, True), (3, 12, PLAIN_HALF, True), (1, 9, PLAIN_HALF, False)],
                       [(-2, 5, PLAIN_HALF, True), (2, -5, PLAIN_HALF, True)]):
            found = seen(*[made_sight(sight) for sight in sights])
            self.assertTrue(len(found.rows) == 3 and bar_is_right(sights, found.rows), found.rows)

    def test_four_rows_are_too_many(self):
        sights = [(2, 0, PLAIN_HALF, True), (-2, 0, PLAIN_HALF, True), (1, -10, PLAIN_HALF, True), (-1, -10, PLAIN_HALF, True)]
        for order in (sights, sights[::-1], sights[2:] + sights[:2], [(3, -4, PLAIN_HALF, True), *sights, (0, -4, PLAIN_HALF, True)]):
            found = seen(*[made_sight(sight) for sight in order])
            self.assertTrue(not found and bar_is_right(order, found.rows), found.rows)
        for seed in range(200):
            source = random.Random(seed)
            sights = [(unit, source.randint(-9, 9), PLAIN_HALF, True) for unit in source.sample(range(-5, 6), source.randint(4, 7))]
            found = seen(*[made_sight(sight) for sight in sights])
            self.assertTrue(found or bar_is_right(sights, found.rows))
            self.assertEqual(bool(found), zooms_told(sights) is not None)

    def test_borders(self):
        above = Rounding(Ratio(1, 2), False)
        for one, other, told in (
            (Sight(1, 0, above), Sight(1, 1, HALF), (Ratio(1, 2), True, Ratio(1, 2), True)), (Sight(1, 0), Sight(1, 1, above), None),
            (Sight(1, 0), Sight(1, 1), None), (Sight(1, 0, above), Sight(1, 1, above), None),
            (Sight(1, 0, UP), Sight(1, 0), (Ratio(-1, 2), True, Ratio(0), True)), (Sight(1, 0, DOWN), Sight(1, 0), (Ratio(0), True, Ratio(1, 2), False)),
            (Sight(1, 0, UP), Sight(1, 0, DOWN), (Ratio(0), True, Ratio(0), True)), (Sight(1, 1, UP), Sight(1, 0, DOWN), (Ratio(0), False, Ratio(1), False)),
        ):
            shifted = None if told is None else (told[0] - 3, told[1], told[2] - 3, told[3])
            self.assertEqual(scroll_range(3, one, other), shifted)
            self.assertEqual(zoom_range(one, other), None if told is None else (0, False, None, False))
            self.assertEqual(bool(seen(one, other)), told is not None)
            self.assertEqual(scroll_range(3, other, one), shifted)

    def test_ranges_without_ends(self):
        still, falling = Sight(5, 3, None, False), Sight(-1, -2)
        self.assertEqual(zoom_range(still), (Ratio(1, 2), True, Ratio(7, 10), False))
        self.assertEqual(scroll_range(Ratio(1, 2), still), (None, False, None, False))
        self.assertIs(scroll_range(Ratio(7, 10), still), None)
        self.assertEqual((zoom_range(falling), still_range(0, falling)), ((0, False, None, False), (Ratio(3, 2), False, Ratio(5, 2), True)))
        self.assertIs(still_range(-3, falling), None)
        self.assertEqual(still_range(-2, falling), (0, False, Ratio(1, 2), True))
        self.assertEqual(still_range(Ratio(-3, 2), Sight(1, -2)), None)
        self.assertEqual(still_range(Ratio(-3, 2), Sight(1, -1)), (0, False, 1, False))
        self.assertEqual(still_range(7, Sight(0, 7)), (0, False, None, False))
        self.assertIs(still_range(8, Sight(0, 7)), None)
        self.assertEqual(zoom_range(Sight(0, 7), Sight(1, 7, DOWN)), (0, False, Ratio(3, 2), False))
        for told in (zoom_range(still), scroll_range(1), still_range(-2, falling)):
            self.assertTrue(type(told) is tuple and all(part is None or isinstance(part, Ratio) for part in told[::2]))
            self.assertTrue(all(isinstance(part, bool) for part in told[1::2]))

    def test_far_sights(self):
        far = [Sight(LONG, 10 ** 32 - 1), Sight(-LONG, 1 - 10 ** 32), Sight(LONG - 1, 10 ** 32 - 11)]
        plain_far = [(sight.unit, sight.pixel, PLAIN_HALF, True) for sight in far]
        for many in range(1, 4):
            found = seen(*far[:many])
            self.assertEqual(plain(zoom_range(*far[:many])), zooms_told(plain_far[:many]))
            self.assertTrue(shows_seen(far[:many], found) and (found or bar_is_right(plain_far[:many], found.rows)))
        self.assertTrue(seen(*far))
        crowd = [(unit * LONG + unit, LONG * unit - 5, PLAIN_HALF, bool(unit & 1)) for unit in range(-20, 20)]
        made = [made_sight(sight) for sight in crowd]
        found = seen(*made)
        self.assertTrue(not found and bar_is_right(crowd, found.rows) and shows_seen(made, found))
        source = random.Random(7)
        for wrong in (0, 1, 3):
            crowd = [(unit, 3 * unit // 7 + (unit < wrong), (Fraction(1), True), True) for unit in source.sample(range(1000), 39)]
            crowd.append((0, 0 if wrong < 3 else 1, (Fraction(1), True), True))
            made = [made_sight(sight) for sight in crowd]
            found = seen(*made)
            self.assertTrue(shows_seen(made, found) and (found or bar_is_right(crowd, found.rows)))
        self.assertFalse(found)


class MostSeenTest(Case):
    def test_by_plain_views(self):
        kinds = {}
        for seed in range(500):
            source = random.Random(seed)
            sights = any_sights(source, source.randint(0, 7))
            made = [made_sight(sight) for sight in sights]
            scroll = Fraction(source.randint(-12, 12), source.choice((1, 2, 6)))
            found = most_seen(ratio(scroll), *made)
            self.assertTrue(isinstance(found, Agreed) and found and isinstance(found.zoom, Ratio) and found.zoom > 0)
            self.assertEqual(found.indexes, indexes_told(sights, fraction(found.zoom), scroll))
            self.assertEqual(len(found.indexes), most_told(sights, scroll))
            marks = [fraction(mark) for mark in found.marks]
            self.assertTrue(type(found.marks) is tuple and marks == sorted(set(marks)) and not marks[:1] == [0])
            self.assertTrue(set(needed_marks(sights, scroll)) <= set(marks))
            self.assertIs(shows_most_seen(ratio(scroll), made, found), True)
            self.assertIs(shows_most_seen(ratio(scroll), tuple(made), found), True)
            self.assertEqual(most_seen(ratio(scroll), *made), found)
            key = len(found.indexes) == len(sights), bool(found.indexes)
            kinds[key] = kinds.get(key, 0) + 1
        self.assertTrue(len(kinds) == 4 and min(kinds.values()) > 10, kinds)

    def test_changed_papers(self):
        kinds = {}
        for seed in range(250):
            source = random.Random(seed)
            sights = any_sights(source, source.randint(1, 6))
            made = [made_sight(sight) for sight in sights]
            scroll = Fraction(source.randint(-6, 6), source.choice((1, 2)))
            found = most_seen(ratio(scroll), *made)
            for value in near_agreed(source, found):
                is_right = agreed_is_right(sights, scroll, value)
                self.assertIs(shows_most_seen(ratio(scroll), made, value), is_right, (seed, vars(value)))
                kinds[is_right] = kinds.get(is_right, 0) + 1
        self.assertTrue(min(kinds.values()) > 400, kinds)

    def test_kinds_of_parts(self):
        sights = [Sight(10, 7, None, False), Sight(30, 22, None, False), Sight(40, 28, None, False)]
        found = most_seen(0, *sights)
        for value in any_values():
            self.assertIs(shows_most_seen(0, sights, value), False)
            told = Agreed(value, found.indexes, found.marks)
            is_right = zoom(value) and indexes_told(told_plain(sights), fraction(value), 0) == found.indexes
            self.assertIs(shows_most_seen(0, sights, told), is_right)
            self.assertIs(shows_most_seen(0, sights, Agreed(found.zoom, value, found.marks)), False)
            self.assertIs(shows_most_seen(0, sights, Agreed(found.zoom, (value, *found.indexes[1:]), found.marks)),
                          integer(value) and value == found.indexes[0])
            self.assertIs(shows_most_seen(0, sights, Agreed(found.zoom, found.indexes, value)), False)
            self.assertIs(shows_most_seen(0, sights, Agreed(found.zoom, found.indexes, (*found.marks, value))), zoom(value) and value > found.marks[-1])
        self.assertIs(shows_most_seen(0, sights, Agreed(found.zoom, list(found.indexes), found.marks)), False)
        self.assertIs(shows_most_seen(0, sights, Agreed(found.zoom, found.indexes, list(found.marks))), False)
        self.assertIs(shows_most_seen(0, sights, Agreed(found.zoom, tuple(Ratio(index) for index in found.indexes), found.marks)), False)
        self.assertIs(shows_most_seen(0, sights, Agreed(Ratio(1, 9), (), found.marks)), False)
        self.assertIs(shows_most_seen(0, [Sight(0, 3)], Agreed(5, (), ())), True)
        self.assertIs(shows_most_seen(3, [Sight(0, 3)], Agreed(5, (0,), (1, Ratio(3, 2), 2))), True)
        self.assertIs(shows_most_seen(3, [Sight(0, 3)], Agreed(5, (), ())), False)


def told_plain(sights):
    return [(sight.unit, sight.pixel, (fraction(sight.rounding.threshold), sight.rounding.is_from), sight.moves) for sight in sights]


def near_agreed(source, found):
    """Papers near to one: with a part changed, left out, doubled, out of order, or with more than needed."""
    marks, indexes = found.marks, found.indexes
    at = source.randrange(len(marks) + 1)
    low = marks[at - 1] if at else Ratio(0)
    high = marks[at] if at < len(marks) else low + 2
    more = (low * 2 + high).divided(3)
    papers = [
        found, Agreed(found.zoom, indexes, (*marks[:at], more, *marks[at:])), Agreed(found.zoom, indexes, marks[:at] + marks[at + 1:]),
        Agreed(more, indexes, marks), Agreed(low + Ratio(1, 7), indexes, marks), Agreed(found.zoom, indexes[1:], marks), Agreed(found.zoom, (*indexes, 6), marks),
        Agreed(found.zoom, indexes, marks[::-1]), Agreed(found.zoom, indexes[::-1], marks), Agreed(found.zoom, indexes, (*marks, *marks[-1:])),
        Agreed(found.zoom, indexes * 2, marks), Agreed(found.zoom, indexes, ()), Agreed(-found.zoom, indexes, marks),
        Agreed(found.zoom, indexes, (Ratio(0), *marks)), Agreed(found.zoom, indexes, (*marks, Ratio(10 ** 40))),
    ]
    return source.sample(papers, 6)


def agreed_is_right(sights, scroll, value):
    """Whether an Agreed is right, by the words of the document."""
    place, marks = fraction(value.zoom), [fraction(mark) for mark in value.marks]
    if place <= 0 or marks != sorted(set(marks)) or marks[:1] and marks[0] <= 0:
        return False
    if value.indexes != indexes_told(sights, place, scroll) or not set(needed_marks(sights, scroll)) <= set(marks):
        return False
    return len(value.indexes) == most_told(sights, scroll)


class LookSeenTest(Case):
    def test_changed_bars(self):
        kinds = {}
        for seed in range(700):
            source = random.Random(seed)
            sights = any_sights(source, source.randint(1, 5))
            made = [made_sight(sight) for sight in sights]
            found = seen(*made)
            rows = found.rows if not found else any_rows(source, len(sights))
            for value in source.sample(near_rows(source, rows, len(sights)), 6):
                is_right = bar_is_right(sights, value)
                self.assertTrue(not is_right or not found)
                self.assertIs(shows_seen(made, Unseen(value)), is_right, (seed, value))
                kinds[is_right] = kinds.get(is_right, 0) + 1
        self.assertTrue(min(kinds.values()) > 400, kinds)

    def test_kinds_of_parts(self):
        sights = (Sight(10, 7), Sight(30, 22), Sight(40, 28))
        rows = ((1, "low", 3), (0, "high", 1), (2, "high", 2))
        self.assertIs(shows_seen(sights, Unseen(rows)), True)
        self.assertIs(shows_seen(sights, Unseen(list(rows))), False)
        self.assertIs(shows_seen(sights, Unseen(tuple(list(row) for row in rows))), False)
        for at in range(3):
            for part in range(3):
                for value in any_values():
                    row = (*rows[at][:part], value, *rows[at][part + 1:])
                    self.assertIs(shows_seen(sights, Unseen((*rows[:at], row, *rows[at + 1:]))), type(value) is type(rows[at][part]) and value == rows[at][part])
            for value in any_values():
                self.assertIs(shows_seen(sights, Unseen((*rows[:at], value, *rows[at + 1:]))), False)
                self.assertIs(shows_seen(sights, Unseen((*rows, value))), False)
        for value in any_values():
            self.assertIs(shows_seen(sights, value), False)
            self.assertIs(shows_seen(sights, Unseen(value)), False)
        for told in ((), rows[:2], rows[1:], (*rows, (None, "zoom", 1)), (*rows, rows[0]), ((1, "low", 1), (1, "low", 2), *rows[1:])):
            self.assertIs(shows_seen(sights, Unseen(told)), False)
        self.assertIs(shows_seen([Sight(0, 5, None, False)], Unseen(((0, "low", 7),))), True)
        self.assertIs(shows_seen([Sight(0, 5, None, False)], Unseen(((0, "high", 7),))), False)
        self.assertIs(shows_seen([Sight(3, -4, None, False)], Unseen(((0, "high", 5), (None, "zoom", 15)))), True)
        self.assertIs(shows_seen([Sight(3, -4, None, False)], Unseen(((0, "high", 5), (None, "high", 15)))), False)
        self.assertIs(shows_seen([Sight(3, -4, None, False)], Unseen(((0, "high", 5), (0, "zoom", 15)))), False)
        # Four rows bar each other as well, but are too many; a row that is not needed has no weight at all.
        sights_barred = [Sight(10, 7), Sight(10, 9), Sight(20, 1), Sight(20, 5)]
        bars = ((1, "low", 1), (0, "high", 1)), ((3, "low", 2), (2, "high", 2))
        for told, is_right in ((bars[0], True), (bars[1], True), (bars[0] + bars[1], False), ((*bars[0], (2, "low", 0)), False), ((*bars[0], bars[1][0]), False)):
            self.assertIs(shows_seen(sights_barred, Unseen(told)), is_right)
        # The last Sight by an index from behind is none.
        self.assertIs(shows_seen(sights, Unseen(((-2, "low", 3), (0, "high", 1), (-1, "high", 2)))), False)

    def test_any_seen(self):
        sights = [Sight(10, 7), Sight(30, 22)]
        for zoom_told, scroll, is_right in ((Ratio(3, 4), Ratio(-1, 2), True), (Ratio(3, 4), Ratio(-1), True), (Ratio(3, 4), 0, False), (Ratio(3, 4), -1, True),
                                            (1, -8, False), (Ratio(-3, 4), 0, False), (0, 7, False)):
            self.assertIs(shows_seen(sights, Seen(zoom_told, scroll)), is_right)
        for value in any_values():
            self.assertIs(shows_seen([], Seen(value, 0)), zoom(value))
            self.assertIs(shows_seen((), Seen(1, value)), number(value))
            self.assertIs(shows_seen([Sight(0, 3)], Seen(2, value)), number(value) and Ratio(5, 2) <= value < Ratio(7, 2))
        self.assertIs(shows_seen([Sight(0, 3, None, False)], Seen(1, 3)), False)

    def test_papers_of_any_values(self):
        for value in any_values():
            for paper, other, is_true in ((Seen(zoom=value, scroll=value), Seen("other", value), True), (Seen(value, value), Seen(value, "other"), True),
                                          (Unseen(rows=value), Unseen("other"), False), (Agreed(zoom=value, indexes=value, marks=value), Agreed("other", value, value), True),
                                          (Agreed(value, value, value), Agreed(value, "other", value), True), (Agreed(value, value, value), Agreed(value, value, "other"), True)):
                self.assertEqual((bool(paper), all(told is value for told in vars(paper).values())), (is_true, True))
                self.assertTrue(paper == paper and paper != other and other != paper and paper != value)
                self.assertEqual(isinstance(paper, Verdict), not isinstance(paper, Agreed))
            self.assertTrue(Seen(value, value) == Seen(value, value) and Unseen(value) == Unseen(value) and Agreed(value, 1, 2) == Agreed(value, 1, 2))
            self.assertFalse(Seen(value, value) == Unseen(value) or Unseen(value) == Seen(value, value))
        self.assertEqual((list(vars(Seen(1, 2))), list(vars(Unseen(1))), list(vars(Agreed(1, 2, 3)))), (["zoom", "scroll"], ["rows"], ["zoom", "indexes", "marks"]))


def any_rows(source, many):
    """Rows by chance, which bar nothing in most cases."""
    rows = [(None, "zoom")] + [(index, side) for index in range(many) for side in ("low", "high")]
    return tuple((*row, source.randint(1, 5)) for row in source.sample(rows, min(len(rows), source.randint(1, 3))))


def near_rows(source, rows, many):
    """Rows near to some: with a part changed, left out, doubled, out of order."""
    at = source.randrange(len(rows))
    index, side, weight = rows[at]
    ahead, behind = rows[:at], rows[at + 1:]
    return [
        rows, rows[::-1], tuple((*row[:2], row[2] * 7) for row in rows), ahead + behind, ahead + ((index, side, weight + 1),) + behind,
        ahead + ((index, side, -weight),) + behind, rows + (rows[at],), ahead + ((index, "high" if side == "low" else "low", weight),) + behind,
        ahead + ((source.randrange(many + 1), side, weight),) + behind, rows + ((None, "zoom", 1),), list(rows), any_rows(source, many),
        ahead + ((index, side, 1),) + behind, tuple((*row[:2], row[2] * LONG) for row in rows), ahead + ((index, side, weight, 1),) + behind,
    ]


if __name__ == "__main__":
    unittest.main()
