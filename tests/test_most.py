import random
import unittest
from fractions import Fraction

from allzooms.drawn import Drawn
from allzooms.errors import BadDrawn, BadScroll, BadZoom, TooMany
from allzooms.look_most import shows_greatest, shows_least
from allzooms.look_views import shows_judge
from allzooms.most import Endless, Most, greatest, least, limits, stays
from allzooms.ratios import Ratio
from allzooms.roundings import Rounding
from allzooms.views import Always, judge
from tests.check import LONG, Case, any_values, integer, number
from tests.plain_claims import FAR, drawn_thing, limits_of, own_terms, small_drawing, true_at
from tests.plain_faces import all_faces
from tests.plain_papers import always_is_right
from tests.reckon import fraction, growth, made, ratio, worth

DOWN, UP = Rounding.all_down(), Rounding.all_up()
CUTS, TURNS = TooMany("cuts", 1000), TooMany("turns", 200)
NEAR = Fraction(1, 10 ** 9)


def is_drawn(value):
    return isinstance(value, Drawn)


def is_level(value):
    return is_drawn(value) and value.weight == 0


def plain_numbers(thing, turns):
    """All limits at the corners of some turns, and the worths that are reached at them."""
    terms = own_terms(made(thing))
    found, reached = set(), set()
    for turn in turns:
        for row in all_faces(terms, turn):
            for face in row:
                numbers = set(limits_of(thing, face))
                found |= numbers
                if len(numbers) == 1:
                    reached |= numbers
    return found, reached


def plain_limits(thing, place, moved):
    """The limits at a point, by views in very many directions."""
    numbers = set()
    off = [(over, aside) for over in (-2, -1, 0, 1, 2) for aside in range(-23, 24)]
    for over, aside in off:
        view = place + over * NEAR, moved + aside * NEAR
        if view[0] > 0:
            numbers.add(worth(thing, *view) - true_at(thing, view) + true_at(thing, (place, moved)))
    return sorted(numbers)


def overtaken(many):
    """A choice whose greatest member changes in so many turns; it stays at last."""
    bound = Drawn.plain(0)
    line = 0
    for at in range(many - 1):
        bound = -(many - at - 1) * Drawn.size(1, DOWN) + line if at == 0 else bound | (-(many - at - 1) * Drawn.size(1, DOWN) + line)
        line -= at + 1
    return bound | line


def passed_between(many):
    """A choice whose members pass one another between turns, so many times, five turns apart."""
    bound = Drawn.plain(0)
    line = 0
    for at in range(many):
        member = -2 * (many - at) * Drawn.size(1, DOWN) + line
        bound = member if at == 0 else bound | member
        line -= 10 * at + 3
    return bound | line


class MostTest(Case):
    def test_wrong_arguments(self):
        for work in (greatest, least, stays, lambda value: limits(value, None, None), lambda value: shows_greatest(value, None),
                     lambda value: shows_least(value, None)):
            for value in any_values():
                if not is_drawn(value):
                    self.refuses(BadDrawn("drawn"), work, value)
                elif not is_level(value):
                    self.refuses(BadDrawn("scroll"), work, value)
        one = Drawn.size(1)
        self.refuses_all(BadZoom, lambda value: number(value) and value >= 0, lambda value: limits(one, value, None))
        self.refuses_all(BadScroll, number, lambda value: limits(one, 0, value))
        self.assertEqual(limits(scroll=0, zoom=1, drawn=one), limits(one, 1, 0))
        self.assertTrue(greatest(drawn=-one) and least(drawn=one) and not stays(drawn=one))

    def test_bounds_by_all_faces(self):
        kinds = {}
        for seed in range(60):
            source = random.Random(seed)
            thing = drawn_thing(small_drawing(source), source.random() < 0.6, source.random() < 0.8)
            drawn = made(thing)
            text = str(drawn)
            grown = growth(thing)
            self.assertEqual(drawn.growth, grown)
            for work, shows, sign in ((greatest, shows_greatest, 1), (least, shows_least, -1)):
                found = work(drawn)
                if sign * grown > 0:
                    self.assertEqual((found, bool(found), type(found)), (Endless(grown), False, Endless))
                    self.assertIs(shows(drawn, found), True)
                    kinds["endless"] = True
                    continue
                turns = {*range(4), *found.turns[:5], source.randint(6, 40), FAR}
                numbers, reached = plain_numbers(thing, turns)
                bound = max(numbers) if sign > 0 else min(numbers)
                self.check_most(thing, drawn, found, bound, bound in reached)
                self.assertIs(shows(drawn, found), True, (seed, text))
                self.assertEqual(work(drawn), found)
                if len(found.turns) * len(found.marks) < 60:
                    claim = drawn * sign
                    claim = claim.at_most(bound_of(sign, found)) if found.is_reached else claim.below(bound_of(sign, found))
                    self.assertTrue(always_is_right(claim, found.marks, found.turns))
                kinds[(found.is_reached, found.zoom == 0, len(found.turns) > 1)] = True
            self.assertEqual(str(drawn), text)
            if not grown:
                self.assertIs(stays(drawn), greatest(drawn).number == least(drawn).number)
            else:
                self.assertIs(stays(drawn), False)
        self.assertTrue(len(kinds) >= 6, kinds)

    def check_most(self, thing, drawn, found, bound, is_reached):
        self.assertEqual((type(found), bool(found), type(found.number), found.is_reached), (Most, True, Ratio, is_reached))
        self.assertEqual(fraction(found.number), bound)
        self.assertTrue(number(found.zoom) and number(found.scroll))
        view = fraction(found.zoom), fraction(found.scroll)
        if is_reached:
            self.assertTrue(view[0] > 0)
            self.assertEqual(worth(thing, *view), bound)
        else:
            self.assertTrue(view[0] >= 0)
            self.assertIn(bound, plain_limits(thing, *view))

    def test_limits_by_many_directions(self):
        for seed in range(70):
            source = random.Random(seed)
            thing = drawn_thing(small_drawing(source), source.random() < 0.6, source.random() < 0.5)
            drawn = made(thing)
            for _ in range(3):
                place = Fraction(source.choice((0, 1, 1, 2, 3, 5, 7)), source.choice((1, 2, 3, 4, 6, 14)))
                moved = Fraction(source.randint(-6, 6), source.choice((1, 2, 3, 4, 6, 14)))
                found = limits(drawn, ratio(place), ratio(moved))
                self.assertEqual((type(found), {type(one) for one in found}), (tuple, {Ratio}))
                self.assertEqual([fraction(one) for one in found], plain_limits(thing, place, moved), (seed, str(drawn), place, moved))
                if place:
                    self.assertIn(drawn(ratio(place), ratio(moved)), found)

    def test_told_limits(self):
        size, edge = Drawn.size, Drawn.edge
        for drawn, place, moved, told in (
            (size(1) - Drawn.true(1), 0, 0, ["0"]), (size(1, UP), 0, 5, ["1"]), (size(-1, UP), 0, 5, ["0"]), (size(-1, DOWN), 0, 0, ["-1"]),
            (edge(0) - edge(0, UP), 0, 0, ["-1", "0"]), (edge(2) - edge(1), 0, Ratio(1, 2), ["0", "1"]),
            (edge(1) - edge(2), 0, Ratio(1, 2), ["-1", "0"]), (edge(2) - edge(1), 1, Ratio(1, 2), ["0", "1", "2"]),
            (edge(2) - edge(1), 3, 0, ["3"]), (Drawn.plain(Ratio(2, 7)), 4, 4, ["2/7"]), (Drawn.true(3) + 1, Ratio(1, 2), 9, ["5/2"]),
            ((size(2) | 1) + size(2), Ratio(3, 4), 0, ["2", "4"]), (edge(1) - edge(0) - size(1), Ratio(1, 2), 0, ["-1", "0", "1"]),
            (edge(1) - edge(1), 0, 0, ["0"]), (size(3, Rounding(Ratio(1, 3))), LONG, 0, [str(3 * LONG)]),
        ):
            self.assertEqual([str(one) for one in limits(drawn, place, moved)], told, (str(drawn), place, moved))

    def test_each_side_of_a_point(self):
        size, edge, half_down = Drawn.size, Drawn.edge, Rounding.half_down()
        # 1 right of the zoom 1/2, left of it, at it; above the line 3 z + s = 1/2, below it, on it.
        right, left = size(1, half_down) - size(1, DOWN), 1 - size(1) + size(1, DOWN)
        above, below = edge(3, half_down) - edge(3, DOWN), 1 - edge(3) + edge(3, DOWN)
        on_zoom, on_line = size(1) - size(1, half_down), edge(3) - edge(3, half_down)
        for zooms in (right, left, on_zoom):
            for places in (above, below, on_line):
                self.assertEqual(limits(zooms & places, Ratio(1, 2), -1), (0, 1))
        self.assertEqual(limits(on_line, 0, Ratio(1, 2)), (0, 1))
        self.assertEqual(limits(on_zoom, 0, 0), (0,))
        for beside in (1, 7):
            # Between two lines that cross, on one side of the point and on the other.
            one_place, two_place = Ratio(1, 2) - Ratio(3, 2), Ratio(1, 2) - Ratio(beside, 2)
            self.assertEqual(one_place + Ratio(3, 2), two_place + Ratio(beside, 2))
            other_below = 1 - edge(beside) + edge(beside, DOWN)
            other_above = edge(beside, half_down) - edge(beside, DOWN)
            place = Ratio(1)
            for one in (above, below, on_line):
                for other in (other_below, other_above):
                    self.assertEqual(limits(one & other, place, Ratio(1, 2)), (0, 1))
            self.assertEqual(limits(on_line & (edge(beside) - edge(beside, half_down)), place, Ratio(1, 2)), (0, 1))

    def test_told_bounds(self):
        size, edge, true = Drawn.size, Drawn.edge, Drawn.true
        for drawn, low, high in (
            (edge(1) - true(1, 1), ("-1/2", False), ("1/2", True)), (edge(4, DOWN) - true(4, 1), ("-1", False), ("0", True)),
            (edge(4, UP) - true(4, 1), ("0", True), ("1", False)), (size(3) - true(3), ("-1/2", False), ("1/2", True)),
            (size(3, Rounding(Ratio(1, 3), False)) - true(3), ("-1/3", True), ("2/3", False)), (Drawn.plain(7), ("7", True), ("7", True)),
            (edge(5) - edge(2) - size(3), ("-1", True), ("1", True)), (3 * size(1) - size(3), ("-1", True), ("1", True)),
            (true(3), ("0", False), None), (true(-3) + 1, None, ("1", False)), (size(2), ("0", True), None), (-size(2), None, ("0", True)),
            (size(1, UP), ("1", True), None), ((size(1) | 4) - size(1), ("0", True), ("4", True)), (size(1) & FAR, ("0", True), (str(FAR), True)),
            ((size(1) & FAR) + (size(1) & 3), ("0", True), (str(FAR + 3), True)),
            ((size(1) & FAR) - size(1) + size(1) - (2 * size(1) & LONG), (str(FAR - LONG), True), ("0", True)),
            (((size(2) | 3) & 5) - size(0), ("3", True), ("5", True)), (true(0, 1) - edge(0), ("-1/2", True), ("1/2", False)),
            (edge(1) - edge(0) - true(1), ("-1", False), ("1", False)), (true(1) - size(1, DOWN), ("0", True), ("1", False)),
        ):
            for told, found in ((low, least(drawn)), (high, greatest(drawn))):
                if told is None:
                    self.assertEqual(found, Endless(drawn.growth))
                else:
                    self.assertEqual((str(found.number), found.is_reached), told, str(drawn))
            self.assertTrue(shows_least(drawn, least(drawn)) and shows_greatest(drawn, greatest(drawn)))
        self.assertEqual((least(true(3)).zoom, greatest(true(-3)).zoom), (0, 0))
        point = greatest(edge(1) - edge(0) - true(1))
        self.assertIn(1, limits(edge(1) - edge(0) - true(1), point.zoom, point.scroll))

    def test_stays(self):
        size, edge = Drawn.size, Drawn.edge
        for drawn, told in (
            (Drawn.plain(Ratio(1, 3)), True), (size(1) - size(1), True), ((size(1) | size(2)) - size(2), True), (size(1), False),
            ((size(1) & 3) - (size(1) & 4), False), (edge(1) - edge(0), False), (size(1, DOWN) + size(-1, UP), True),
            (edge(1) + size(-1) - edge(0), False), (size(1) + size(-1, ~Rounding.half_up()) + 5, True), (Drawn.true(1), False),
            (edge(0) - Drawn.true(0, 1), False), (edge(3, UP) - edge(3, DOWN), False), (((size(1) | 0) - size(1)), True),
            (((-size(1) | 0) + 2), True), ((size(1) | -1) - (size(1) | 0), True), (size(1) & FAR, False),
        ):
            self.assertIs(stays(drawn), told, str(drawn))

    def test_too_many(self):
        down = Drawn.size(1000, DOWN) - 1000 * Drawn.size(1, DOWN)
        thin = Drawn.size(1000, DOWN) - 1000 * Drawn.size(1, Rounding(Ratio(1, 3)))
        found = greatest(down)
        self.assertEqual((found.number, least(down).number, len(found.marks), shows_greatest(down, found)), (999, 0, 1001, True))
        rising, falling = thin + Drawn.size(1), thin - Drawn.size(1)
        for work in (greatest, least, stays):
            self.refuses(CUTS, work, thin)
        self.assertEqual((greatest(rising), least(falling)), (Endless(1), Endless(-1)))
        self.refuses(CUTS, least, rising)
        self.refuses(CUTS, greatest, falling)
        self.refuses(CUTS, stays, rising)
        self.refuses(CUTS, stays, falling)
        paper = Most(Ratio(1000), True, 1, 0, (Ratio(0), Ratio(1)), (0,))
        self.assertIs(shows_greatest(rising, Endless(1)), True)
        for value in any_values():
            try:
                self.assertIs(shows_greatest(thin, value), False)
            except TooMany as error:
                self.assertEqual((error.what, error.most), ("cuts", 1000))
        self.assertEqual(len(limits(thin, 1, 0)), 2)
        self.assertFalse(paper == found)

    def test_most_turns(self):
        for many, is_let in ((199, True), (200, True), (201, False)):
            drawn = overtaken(many)
            rising = drawn + Drawn.size(1)
            self.assertEqual((drawn.growth, rising.growth), (0, 1))
            if is_let:
                found = greatest(drawn)
                self.assertEqual((found.number, len(found.turns), shows_greatest(drawn, found)), (0, many + 1, True))
                self.assertEqual((least(rising) and 1, stays(drawn), shows_least(drawn, least(drawn))), (1, False, True))
            else:
                self.refuses(TURNS, greatest, drawn)
                self.refuses(TURNS, least, drawn)
                self.assertEqual(greatest(rising), Endless(1))
                self.refuses(TURNS, least, rising)
                self.refuses(TURNS, stays, rising)
                self.refuses(TURNS, judge, drawn.at_most(0))
                # The looker asks for no more turns than are needed.
                paper = greatest(overtaken(200))
                paper.turns = tuple(range(202))
                self.assertIs(shows_greatest(drawn, paper), True)
                paper.turns = tuple(range(200))
                self.assertIs(shows_greatest(drawn, paper), False)
        self.assertEqual(len(greatest(passed_between(100)).turns), 300)
        self.assertTrue(judge(passed_between(100).at_most(0)))
        self.refuses(TURNS, greatest, passed_between(101))
        # Only choices change: an atom that is no more true does not count.
        self.assertEqual(least(Drawn.size(1)).turns, (0,))

    def test_changes_far_out(self):
        bend = (Drawn.size(1) & FAR) - (Drawn.size(1) & FAR + 5)
        found = least(bend)
        self.assertEqual((found.number, found.turns[0], found.turns[1]), (-5, 0, FAR - 2))
        self.assertTrue(found.zoom > FAR and shows_least(bend, found) and greatest(bend).number == 0)


class PapersTest(Case):
    def test_papers(self):
        names = ("number", "is_reached", "zoom", "scroll", "marks", "turns")
        for value in any_values():
            made_of = {name: value if at % 2 else [value, at] for at, name in enumerate(names)}
            paper = Most(**made_of)
            self.assertEqual((vars(paper), bool(paper), paper), (made_of, True, Most(*made_of.values())))
            for name in names:
                self.assertFalse(paper == Most(**{**made_of, name: ["other"]}))
            end = Endless(gain=value)
            self.assertEqual((vars(end), bool(end), end), ({"gain": value}, False, Endless(value)))
            self.assertFalse(end == Endless([value]) or end == paper or paper == end or end == value and not isinstance(value, Endless))

    def test_endless(self):
        one = Drawn.size(2) - Drawn.size(1)
        for drawn, shows, other, gain in ((one, shows_greatest, shows_least, 1), (-one, shows_least, shows_greatest, -1)):
            for value in [*any_values(), Ratio(gain), float(gain), -gain, 0, 2 * gain]:
                self.assertIs(shows(drawn, Endless(value)), integer(value) and value == gain)
                self.assertIs(other(drawn, Endless(value)), False)
        for drawn in (Drawn.plain(0), one - Drawn.size(1)):
            for value in any_values():
                self.assertIs(shows_greatest(drawn, Endless(value)), False)
                self.assertIs(shows_least(drawn, Endless(value)), False)

    def test_any_values(self):
        drift = Drawn.edge(1) - Drawn.true(1, 1)
        for value in any_values():
            self.assertIs(shows_greatest(drawn=drift, value=value), False)
            self.assertIs(shows_least(drawn=drift, value=value), False)
        found = greatest(drift)
        parts = {name: getattr(found, name) for name in vars(found)}
        for name in parts:
            for value in any_values():
                paper = Most(**{**parts, name: value})
                is_right = self.is_right(drift, paper)
                self.assertIs(shows_greatest(drift, paper), is_right, (name, value))

    def is_right(self, drawn, paper):
        """What is right of a greatest worth of a drift, by the words of the document."""
        if type(paper.number) is not Ratio or type(paper.is_reached) is not bool or not number(paper.zoom) or not number(paper.scroll):
            return False
        if paper.is_reached:
            if paper.zoom <= 0 or drawn(paper.zoom, paper.scroll) != paper.number:
                return False
            return shows_judge(drawn.at_most(paper.number), Always(paper.marks, paper.turns))
        if paper.zoom < 0 or paper.number not in limits(drawn, paper.zoom, paper.scroll):
            return False
        return shows_judge(drawn.below(paper.number), Always(paper.marks, paper.turns))

    def test_kinds_of_a_number(self):
        for drawn, shows, work in (((Drawn.size(1) | 4) - Drawn.size(1), shows_greatest, greatest), (Drawn.plain(7), shows_least, least)):
            found = work(drawn)
            self.assertIs(shows(drawn, found), True)
            self.assertIs(shows(drawn, Most(found.number.over, True, found.zoom, found.scroll, found.marks, found.turns)), False)
            self.assertIs(shows(drawn, Most(found.number, 1, found.zoom, found.scroll, found.marks, found.turns)), False)
            self.assertIs(shows(drawn, Most(found.number, True, found.zoom, 0, found.marks, found.turns)), True)

    def test_papers_near_to_right_ones(self):
        many = {}
        for seed in range(60):
            source = random.Random(seed)
            thing = drawn_thing(small_drawing(source), source.random() < 0.7, True)
            drawn = made(thing)
            for work, shows, sign in ((greatest, shows_greatest, 1), (least, shows_least, -1)):
                found = work(drawn)
                parts = {name: getattr(found, name) for name in vars(found)}
                changes = [
                    {"number": found.number + sign}, {"number": found.number - sign}, {"number": found.number + Ratio(sign, 7)},
                    {"is_reached": not found.is_reached}, {"zoom": found.zoom + Ratio(1, 5)}, {"scroll": found.scroll + Ratio(1, 3)},
                    {"scroll": found.scroll + 4}, {"zoom": Ratio(0)}, {"zoom": -found.zoom - 1}, {"marks": found.marks[:-1]},
                    {"marks": found.marks[:1] + found.marks[2:]}, {"marks": found.marks + found.marks[-1:]}, {"turns": found.turns + (FAR,)},
                    {"turns": found.turns[1:]}, {"turns": found.turns[:-1]}, {"marks": None}, {"turns": [0]},
                    {"marks": (found.marks[0], (found.marks[0] + found.marks[1]) * Ratio(1, 2), *found.marks[1:])}, {"number": 7},
                ]
                for change in changes:
                    paper = Most(**{**parts, **change})
                    mirrored = Most(**{**parts, **change, "number": paper.number * sign if number(paper.number) else None})
                    is_right = self.is_right(drawn * sign, mirrored)
                    self.assertIs(shows(drawn, paper), is_right, (seed, str(drawn), change))
                    name = list(change)[0]
                    many[(name, is_right)] = True
                    if name == "number":
                        self.assertFalse(is_right)
        self.assertEqual({name for name, is_right in many if is_right}, {"zoom", "scroll", "marks", "turns"})


def bound_of(sign, found):
    return found.number * sign


if __name__ == "__main__":
    unittest.main()
