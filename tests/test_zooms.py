import random
import unittest
from fractions import Fraction

from allzooms.errors import BadNumber, BadText, BadZoom, BadZooms, TooMany
from allzooms.ratios import Ratio
from allzooms.zooms import Zooms
from tests.check import LONG, Case, any_values, number, zoom
from tests.grammar import mutated
from tests.reckon import fraction, ratio

WORDS = ("in", "out", "from", "turn", "0", "1", "2", "1/2", "5/2", "-1", "2/4", "", "x")


class Plain:
    """A set of zooms by its marks, begin and turn, asked zoom by zoom."""

    def __init__(self, begin, turn, marks, is_first):
        self.begin, self.turn, self.marks, self.is_first = begin, turn, marks, is_first

    def has(self, place):
        while place > self.begin + self.turn:
            place -= self.turn
        told = self.is_first
        for at, is_at, is_behind in self.marks:
            if at == place:
                return is_at
            if at < place:
                told = is_behind
        return told

    def zooms(self):
        marks = tuple((ratio(at), is_at, is_behind) for at, is_at, is_behind in self.marks)
        return Zooms(ratio(self.begin), ratio(self.turn), marks, self.is_first)

    def longer(self, turns, later):
        """The same set with a turn so many times and a later begin."""
        begin = self.begin + later * self.turn / 2
        end = begin + turns * self.turn
        marks = []
        for at, is_at, is_behind in self.marks:
            while at <= end:
                marks.append((at, is_at, is_behind))
                if at <= self.begin:
                    break
                at += self.turn
        return Plain(begin, self.turn * turns, tuple(sorted(marks)), self.is_first)


def plain_set(source):
    """A set by chance; now and then its far zooms are all in or all out."""
    begin = Fraction(source.randint(0, 6), source.choice((1, 2)))
    turn = Fraction(source.choice((1, 2, 3)), source.choice((1, 1, 2)))
    places = [Fraction(source.randint(1, 12 * int(begin + turn + 1)), 12) for _ in range(source.randint(0, 7))]
    is_far_plain = source.random() < 0.4
    places = sorted({at for at in places if at <= (begin if is_far_plain else begin + turn)})
    marks = [[at, source.random() < 0.5, source.random() < 0.5] for at in places]
    is_first = source.random() < 0.5
    early = [mark for mark in marks if mark[0] <= begin]
    if len(early) < len(marks):
        marks[-1][2] = early[-1][2] if early else is_first
    return Plain(begin, turn, tuple(tuple(mark) for mark in marks), is_first)


def places_of(*sets):
    """Zooms at the marks of sets for some turns, between them and beside them."""
    marks = {Fraction(0)}
    for one in sets:
        for at, _, _ in one.marks:
            for turn in range(5):
                marks.add(at + turn * one.turn)
        marks.update((one.begin, one.begin + one.turn))
    ends = sorted(marks)
    near = Fraction(1, 10 ** 6)
    found = {at for mark in ends for at in (mark, mark + near, mark - near)}
    found |= {(one + other) / 2 for one, other in zip(ends, ends[1:])}
    return sorted(at for at in found if at > 0)


class ZoomsTest(Case):
    def test_wrong_parts(self):
        mark = ((1, True, False),)
        for value in any_values():
            if not (number(value) and value >= 0):
                self.refuses(BadZooms("begin"), Zooms, value, None, None, None)
                for make in (Zooms.between, Zooms.beyond):
                    self.refuses(BadZooms("low"), make, value, "x")
                self.refuses(BadZooms("high"), Zooms.between, 5, value, "x", "x")
            if not zoom(value):
                self.refuses(BadZooms("turn"), Zooms, 0, value, None, None)
                self.refuses(BadZooms("marks"), Zooms, 5, 1, ((value, True, False),), None)
            if not isinstance(value, bool):
                self.refuses(BadZooms("first"), Zooms, 2, 1, mark, value)
                self.refuses(BadZooms("marks"), Zooms, 2, 1, ((1, value, False),), None)
                self.refuses(BadZooms("marks"), Zooms, 2, 1, ((1, True, value),), None)
                self.refuses(BadZooms("is_low"), Zooms.between, 2, 1, value, None)
                self.refuses(BadZooms("is_high"), Zooms.between, 2, 1, True, value)
                self.refuses(BadZooms("is_low"), Zooms.beyond, 2, value)
            if value not in ((), ((1, True, False),)):
                self.refuses(BadZooms("marks"), Zooms, 2, 1, value, None)
                self.refuses(BadZooms("marks"), Zooms, 2, 1, (value,), None)
        for marks in ([(1, True, False)], ([1, True, False],), ((1, True),), ((1, True, False, True),), ((0, True, False),),
                      ((2, True, False), (1, True, False)), ((1, True, False), (1, True, False)), ((Ratio(7, 2), True, False),)):
            self.refuses(BadZooms("marks"), Zooms, 2, 1, marks, None)
        for marks, is_first in ((((3, True, False),), True), (((1, True, False), (3, True, True)), False),
                                (((Ratio(5, 2), False, True),), False)):
            self.refuses(BadZooms("round"), Zooms, 2, 1, marks, is_first)
        for low, high, is_low, is_high in ((2, 1, True, True), (1, 1, False, True), (1, 1, True, False), (0, 0, True, True)):
            self.refuses(BadZooms("order"), Zooms.between, low, high, is_low, is_high)

    def test_normal_form(self):
        for seed in range(300):
            source = random.Random(seed)
            one = plain_set(source)
            zooms = one.zooms()
            for other in (one.longer(2, 0), one.longer(3, 1), one.longer(1, 4)):
                again = other.zooms()
                self.assertEqual((again, str(again)), (zooms, str(zooms)))
            self.assertEqual(Zooms(zooms.begin, zooms.turn, zooms.marks, zooms.is_first), zooms)
            for part in (zooms.begin, zooms.turn, *[mark[0] for mark in zooms.marks]):
                self.assertIsInstance(part, Ratio)
            ahead = zooms.is_first
            for at, is_at, is_behind in zooms.marks:
                self.assertFalse(ahead == is_at == is_behind)
                self.assertTrue(at <= zooms.begin + zooms.turn)
                ahead = is_behind
            self.assertEqual(tuple(zooms), zooms.marks)
            self.least(zooms, one)

    def least(self, zooms, one):
        """Holds begin and turn against a search: no lesser ones serve."""
        begin, turn = fraction(zooms.begin), fraction(zooms.turn)
        places = places_of(one)
        for at in places:
            if at > begin:
                self.assertEqual(one.has(at), one.has(at + turn))
        near = Fraction(1, 10 ** 6)
        if begin:
            self.assertTrue(any(one.has(at) != one.has(at + turn) for at in (begin, begin - near)))
        far = [at for at in places if at > one.begin]
        if len({one.has(at) for at in far}) == 1:
            self.assertEqual(turn, 1)
        else:
            for parts in (2, 3, 4, 5, 6, 7):
                self.assertTrue(any(one.has(at) != one.has(at + turn / parts) for at in far))

    def test_members_and_operators(self):
        for seed in range(200):
            source = random.Random(seed)
            one, other = plain_set(source), plain_set(source)
            first, second = one.zooms(), other.zooms()
            texts = str(first), str(second)
            places = places_of(one, other)
            joined = (first | second, first & second, first - second, first ^ second, ~first)
            for at in places:
                left, right = one.has(at), other.has(at)
                told = [ratio(at) in zooms for zooms in (first, second, *joined)]
                self.assertEqual(told, [left, right, left or right, left and right, left and not right, left != right,
                                        not left])
            is_below = all(other.has(at) for at in places if one.has(at))
            is_above = all(one.has(at) for at in places if other.has(at))
            self.assertEqual((first <= second, first >= second, first == second), (is_below, is_above, is_below and is_above))
            self.assertEqual((first < second, first > second), (is_below and not is_above, is_above and not is_below))
            self.assertTrue(first & second <= first <= first | second)
            self.assertEqual((str(first), str(second)), texts)
            self.assertEqual((bool(first), first - first, first ^ first), (any(map(one.has, places)),) + (Zooms.nothing(),) * 2)

    def test_members_of_any_kind(self):
        for value in any_values():
            self.assertIs(value in Zooms.everything(), bool(zoom(value)))
            self.assertIs(value in Zooms.nothing(), False)
            self.assertIs(Zooms.everything() == value, isinstance(value, Zooms) and value == Zooms.everything())
        self.assertIn(LONG, Zooms.beyond(LONG))
        self.assertNotIn(Ratio(LONG - 1, LONG), Zooms.between(1, 2))

    def test_ends(self):
        for made, text in (
            (Zooms.everything(), "in from 0 turn 1"), (Zooms.nothing(), "out from 0 turn 1"), (Zooms.beyond(0), "in from 0 turn 1"),
            (Zooms.beyond(0, False), "in from 0 turn 1"), (Zooms.beyond(low=2, is_low=False), "out 2 out in from 2 turn 1"),
            (Zooms.between(0, 3), "in 3 in out from 3 turn 1"), (Zooms.between(0, 3, False, False), "in 3 out out from 3 turn 1"),
            (Zooms.between(2, 2), "out 2 in out from 2 turn 1"), (Zooms.between(low=1, high=2, is_low=False, is_high=False),
                                                                "out 1 out in 2 out out from 2 turn 1"),
            (Zooms(5, 7, (), True), "in from 0 turn 1"), (Zooms(begin=0, turn=2, marks=((2, False, True),), is_first=True),
                                                          "in 2 out in from 0 turn 2"),
            (Zooms(1, 1, ((1, False, True), (2, False, True)), True), "in 1 out in from 0 turn 1"),
            (~Zooms.between(2, 2), "in 2 out in from 2 turn 1"),
        ):
            self.assertEqual(str(made), text)
            self.assertEqual(Zooms.read(text), made)

    def test_places(self):
        near = Fraction(1, 10 ** 6)
        for seed in range(200):
            one = plain_set(random.Random(seed))
            zooms = one.zooms()
            places = places_of(one)
            ends = [at for at in places if one.has(at)]
            self.assertEqual(zooms.first, self.place_behind(one, Fraction(0)) if ends else None)
            for at in places[::3]:
                self.assertEqual(zooms.next(ratio(at)), self.place_behind(one, at))
                found = zooms.nearest(ratio(at))
                if one.has(at):
                    self.assertEqual(found, (ratio(at), True))
                elif found is not None:
                    place, is_there = fraction(found[0]), found[1]
                    gap = abs(place - at)
                    self.assertTrue(is_there == (place > 0 and one.has(place)))
                    self.assertTrue(one.has(place) or one.has(place + near) or one.has(place - near))
                    self.assertFalse(any(one.has(other) and abs(other - at) < gap - near for other in places))
                    if gap > near:
                        twin = 2 * at - place
                        is_end = twin > 0 and (one.has(twin) or one.has(twin + (near if twin > at else -near)))
                        if is_end:
                            self.assertGreaterEqual(is_there, one.has(twin))
                            self.assertTrue(is_there != one.has(twin) or place < twin)
                else:
                    self.assertFalse(ends)

    def place_behind(self, one, begin):
        """The place at which the zooms of a set above a zoom begin, by looking at its marks one by one."""
        near = Fraction(1, 10 ** 7)
        marks = {begin}
        for at, _, _ in one.marks:
            for turn in range(12):
                marks.add(at + turn * one.turn)
        for at in sorted(mark for mark in marks if mark >= begin):
            if at > begin and one.has(at):
                return ratio(at), True
            if one.has(at + near):
                return ratio(at), False
        return None

    def test_far_places(self):
        halves = Zooms(0, 2, ((Ratio(1, 2), True, False), (1, False, True), (Ratio(3, 2), True, False), (2, False, True)), True)
        far = 2 * 10 ** 30
        self.assertEqual(halves.next(far + Ratio(3, 4)), (far + 1, False))
        self.assertEqual(halves.nearest(far + Ratio(5, 8)), (Ratio(1, 2) + far, True))
        self.assertEqual(halves.nearest(far + Ratio(7, 8)), (far + 1, False))
        self.assertTrue(far + Ratio(1, 2) in halves and far + Ratio(3, 4) not in halves)
        self.assertEqual(Zooms.between(1, 2).nearest(LONG), (2, True))
        self.assertEqual(Zooms.beyond(LONG, False).nearest(1), (LONG, False))
        for zooms, at, told in ((Zooms.between(1, 2, False, False), 1, (1, False)), (Zooms.between(1, 2, False, False), 2, (2, False)),
                                (Zooms.between(1, 1) | Zooms.between(3, 3), 2, (1, True)),
                                (Zooms.between(1, 1) | Zooms.beyond(3, False), 2, (1, True)),
                                (Zooms.between(0, 1, True, False) | Zooms.beyond(3), 2, (3, True)),
                                (Zooms.between(0, 1, True, False) | Zooms.beyond(3, False), 2, (1, False)),
                                (~Zooms.between(2, 2), 2, (2, False)), (Zooms.nothing(), 2, None)):
            self.assertEqual(zooms.nearest(at), told)
        self.same(Zooms.everything().nearest(3)[0], "3")

    def test_holds_from(self):
        for zooms, told in ((Zooms.everything(), (0, False)), (Zooms.nothing(), None), (Zooms.beyond(2), (2, True)),
                            (Zooms.beyond(2, False), (2, False)), (Zooms.between(1, 2), None), (~Zooms.between(1, 2), (2, False)),
                            (~Zooms.between(1, 2, True, False), (2, True)), (~Zooms.between(2, 2), (2, False)),
                            (Zooms(0, 1, ((1, False, True),), True), None)):
            self.assertEqual(zooms.holds_from, told)
        self.same(Zooms.everything().holds_from[0], "0")
        self.same(Zooms.everything().first[0], "0")

    def test_wrong_zooms(self):
        one = Zooms.between(1, 2)
        for function in (one.next, one.nearest, lambda value: next(one.stretches(value))):
            self.refuses_all(BadZoom, zoom, function)
        self.refuses_all(BadNumber, zoom, one.scaled)
        for sign in (lambda other: one | other, lambda other: one & other, lambda other: one - other, lambda other: one ^ other,
                     lambda other: one <= other, lambda other: one < other, lambda other: one >= other, lambda other: one > other):
            self.refuses_all(lambda value: BadZooms("other"), lambda value: isinstance(value, Zooms), sign)

    def test_share(self):
        for seed in range(150):
            one = plain_set(random.Random(seed))
            parts = 12 * one.turn
            middles = [one.begin + Fraction(2 * at + 1, 24) for at in range(int(parts))]
            self.same(one.zooms().share, str(Fraction(sum(map(one.has, middles)), len(middles))))

    def test_stretches(self):
        for seed in range(150):
            source = random.Random(seed)
            one = plain_set(source)
            zooms = one.zooms()
            upto = Fraction(source.randint(1, 120), 12)
            rows = [(fraction(low), is_low, fraction(high), is_high) for low, is_low, high, is_high in zooms.stretches(ratio(upto))]
            for at in places_of(one):
                is_told = any(low < at < high or at == low and is_low or at == high and is_high for low, is_low, high, is_high in rows)
                self.assertIs(is_told, at <= upto and one.has(at))
            for row, later in zip(rows, rows[1:]):
                self.assertTrue(row[2] < later[0] or row[2] == later[0] and not row[3] and not later[1])
            for low, is_low, high, is_high in rows:
                self.assertTrue(low < high or low == high and is_low and is_high)
                self.assertTrue(high <= upto and (low > 0 or not is_low))
        lazy = Zooms(0, 1, ((1, False, True),), True).stretches(LONG)
        self.assertEqual([next(lazy), next(lazy)], [(0, False, 1, False), (1, False, 2, False)])
        self.assertEqual(list(Zooms.everything().stretches(upto=LONG)), [(0, False, LONG, True)])
        self.assertEqual(list(Zooms.beyond(3, False).stretches(3)), [])
        self.assertEqual(list(Zooms.beyond(3).stretches(3)), [(3, True, 3, True)])
        self.assertEqual(list(Zooms.nothing().stretches(3)), [])
        later = Zooms.nothing().stretches("x")
        self.refuses(BadZoom("x"), lambda: list(later))

    def test_scaled(self):
        for seed in range(60):
            source = random.Random(seed)
            one = plain_set(source)
            times = Fraction(source.randint(1, 5), source.randint(1, 5))
            scaled = one.zooms().scaled(number=ratio(times))
            for at in places_of(one):
                self.assertIs(ratio(at * times) in scaled, one.has(at))
        self.assertEqual(str(Zooms.beyond(2).scaled(3)), "out 6 in in from 6 turn 1")
        self.assertEqual(Zooms.beyond(2).scaled(LONG).first, (2 * LONG, True))

    def test_too_many_marks(self):
        def single(turn, at):
            """All zooms but one in each turn."""
            return Zooms(0, turn, ((at, False, True),), True)

        error = TooMany("marks", 3000)
        first = single(1, 1)
        signs = (lambda one, other: one | other, lambda one, other: one & other, lambda one, other: one - other,
                 lambda one, other: one ^ other, lambda one, other: one <= other, lambda one, other: one < other,
                 lambda one, other: one >= other, lambda one, other: one > other)
        for sign in signs:
            sign(first, single(3000, 3000))
            for other in (single(3001, 3001), single(3000, Ratio(1, 2)), single(LONG, LONG), Zooms.beyond(3000),
                          Zooms.beyond(Ratio(5999, 2)), single(Ratio(LONG, LONG - 1), 1)):
                self.refuses(error, sign, first, other)
                self.refuses(error, sign, other, first)
        # The zooms of both are counted, like ones once.
        self.assertEqual(len((first & single(3000, 3000)).marks), 1)
        self.assertEqual(len((first & single(2999, Ratio(1, 2))).marks), 3000)
        self.assertEqual(len((first - Zooms.beyond(2999)).marks), 2999)
        self.assertEqual((first & Zooms.beyond(2999)).first, (2999, False))
        self.assertEqual((first & Zooms.beyond(Ratio(5997, 2))).begin, Ratio(5997, 2))
        # The far zooms of the other one are all in: its turn does not count.
        self.assertEqual((single(Ratio(1, 3000), Ratio(1, 3000)) | Zooms.everything()), Zooms.everything())
        self.refuses(error, lambda: single(Ratio(1, 3000), Ratio(1, 3000)) | Zooms.beyond(1))

    def test_read(self):
        for seed in range(100):
            source = random.Random(seed)
            zooms = plain_set(source).zooms()
            text = str(zooms)
            self.assertEqual(Zooms.read(text=text), zooms)
            for _ in range(10):
                near = mutated(source, text, WORDS)
                try:
                    self.assertEqual(str(Zooms.read(near)), near)
                except BadText as error:
                    self.assertEqual((error.line, error.word), (0, 0))
        self.refuses_all(lambda value: BadText(0, 0), lambda value: False, Zooms.read)
        for text in ("", "in", "in from 0 turn 1 ", " in from 0 turn 1", "in from 0 turn 2", "in from 1 turn 1",
                     "in 1 in in from 1 turn 1", "out 2 in from 2 turn 1", "yes from 0 turn 1", "in from 0 turn 0",
                     "in from -1 turn 1", "out 2 yes in from 2 turn 1", "in 2 in out from 1 turn 1", "out 2 out in from 2 turn 1/1",
                     "out 3 out in 2 out out from 3 turn 1", "in 1 out in 2 out in from 0 turn 2"):
            self.refuses(BadText(0, 0), Zooms.read, text)


if __name__ == "__main__":
    unittest.main()
