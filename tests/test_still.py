import random
import unittest
from fractions import Fraction

from allzooms.drawn import Claim, Drawn
from allzooms.errors import BadClaim, BadScroll, TooMany
from allzooms.ratios import Ratio
from allzooms.roundings import Rounding
from allzooms.still import zooms_at
from allzooms.zooms import Zooms
from tests.check import LONG, Case, number
from tests.reckon import Drawing, fraction, holds, made_claim, ratio

HALF = (Fraction(1, 2), True)
NEAR = Fraction(1, 10 ** 9)


def size(unit, rounding=HALF):
    return "size", unit, rounding


def total(*parts):
    return "sum", tuple(parts)


def told(value):
    return "number", Fraction(value)


def at_most(thing, bound):
    return "<=", total((1, thing), (-1, told(bound)))


def marks_by_turns(claim, cuts, turns):
    """The many marks of a claim of sizes up to so many whole turns of the length 1, cut by cut."""
    many = 0
    is_ahead = holds(claim, NEAR, 0)
    for turn in range(turns):
        for cut in [*cuts, 1]:
            is_at, is_behind = holds(claim, turn + cut, 0), holds(claim, turn + cut + NEAR, 0)
            many += not is_ahead == is_at == is_behind
            is_ahead = is_behind
    return many


class StillTest(Case):
    def test_wrong_arguments(self):
        claim = Drawn.size(1).at_most(1)
        self.refuses_all(lambda value: BadClaim("claim"), lambda value: isinstance(value, Claim), lambda value: zooms_at(value, None))
        self.refuses_all(BadScroll, number, lambda value: zooms_at(claim, value))
        crowded = (Drawn.size(2) - Drawn.size(1001)).at_most(0)
        self.refuses_all(BadScroll, number, lambda value: zooms_at(crowded, value))
        self.assertEqual(zooms_at(scroll=0, claim=claim), zooms_at(claim))

    def test_against_plain_reckoning(self):
        kinds = {}
        for seed in range(500):
            source = random.Random(seed)
            tree = Drawing(source).claim()
            scroll = Fraction(source.randint(-5, 5), source.choice((1, 2, 3, 7)))
            claim = made_claim(tree)
            text = str(claim)
            zooms = zooms_at(claim, ratio(scroll))
            self.assertIs(type(zooms), Zooms)
            self.assertEqual(zooms_at(~claim, ratio(scroll)), ~zooms)
            places = [NEAR, *[Fraction(source.randint(1, 400), source.choice((1, 2, 3, 4, 5, 6, 8, 12, 30, 210))) for _ in range(40)]]
            for at, _, _ in zooms.marks[:40]:
                places += [fraction(at), fraction(at) + NEAR, max(fraction(at) - NEAR, NEAR / 2)]
            places += [source.randint(1, 10 ** 40) + place for place in places[-5:]]
            for place in places:
                self.assertIs(ratio(place) in zooms, holds(tree, place, scroll), (seed, text, place))
            self.assertEqual(str(claim), text)
            kinds[min(len(zooms.marks), 4)] = True
        self.assertEqual(sorted(kinds), [0, 1, 2, 3, 4])

    def test_sure_claims_and_numbers(self):
        self.assertEqual((zooms_at(Claim.of(True), 5), zooms_at(Claim.of(False))), (Zooms.everything(), Zooms.nothing()))
        self.assertEqual(zooms_at(Drawn.true(1).at_most(10 ** 30)), Zooms.between(0, 10 ** 30))
        self.assertEqual(zooms_at(Drawn.true(2).above(Ratio(1, 3))), Zooms.beyond(Ratio(1, 6), False))
        self.assertEqual(zooms_at((Drawn.edge(0) - Drawn.true(0, 1)).at_most(0), Ratio(1, 3)), Zooms.everything())
        self.assertEqual(zooms_at((Drawn.edge(0) - Drawn.true(0, 1)).at_most(0), Ratio(2, 3)), Zooms.nothing())
        self.assertEqual(zooms_at(Drawn.true(3, 0).equals(7)), Zooms.between(Ratio(7, 3), Ratio(7, 3)))

    def test_long_numbers(self):
        unit, threshold = LONG, Ratio(LONG - 1, LONG)
        rounding = Rounding(threshold)
        found = zooms_at(Drawn.size(unit, rounding).above(LONG - 5))
        self.assertEqual(found.first, ((LONG - 5 + threshold).divided(unit), True))
        moved = zooms_at((Drawn.edge(unit, rounding) - Drawn.edge(0)).at_least(1), Ratio(1, LONG))
        self.assertEqual(moved.first, (Ratio(LONG - 2, LONG * LONG), True))
        self.assertEqual(str(moved.holds_from[0]), str(moved.first[0]))
        far = zooms_at((Drawn.size(1) | 10 ** 30).equals(Drawn.size(2) & 10 ** 30))
        self.assertEqual(far.stretches(LONG).__next__(), (Ratio(10 ** 30 * 2 - 1, 4), True, Ratio(10 ** 30 * 2 + 1, 2), False))

    def test_least_steps(self):
        down = Drawn.size(1, Rounding.all_down())
        for claim, text in (
            (down.at_most(5), "in 6 out out from 6 turn 1"), (down.below(5), "in 5 out out from 5 turn 1"),
            (down.at_least(5), "out 5 in in from 5 turn 1"), (down.above(5), "out 6 in in from 6 turn 1"),
            (down.below(Ratio(5, 2)), "in 3 out out from 3 turn 1"), (down.equals(0), "in 1 out out from 1 turn 1"),
            (Drawn.size(1).below(Ratio(5, 2)), "in 5/2 out out from 5/2 turn 1"), ((down | 3).below(4), "in 4 out out from 4 turn 1"),
            ((down & 3).at_most(2), "in 3 out out from 3 turn 1"), ((down & 3).at_most(3), "in from 0 turn 1"),
        ):
            self.assertEqual(str(zooms_at(claim)), text)

    def test_costs_do_not_hang_on_numbers(self):
        claim = Drawn.size(10 ** 30).below(10 ** 30) | Drawn.size(10 ** 30 * 2).at_least(2 * 10 ** 30 - 1)
        self.assertEqual(zooms_at(claim), Zooms.everything())
        bends = Drawn.plain(0)
        for power in range(20):
            bends = bends + (Drawn.size(1) & 10 ** power)
        self.assertEqual(zooms_at(bends.at_most(10 ** 18)).holds_from, None)

    def test_most_cuts(self):
        down = Rounding.all_down()
        error = TooMany("cuts", 1000)
        thousand = Drawn.size(1000, down) - 1000 * Drawn.size(1, down)
        self.assertEqual(str(zooms_at(thousand.at_most(0))), "in 1/1000 out out 1 in in from 0 turn 1")
        beside = Drawn.size(1000, down) - 1000 * Drawn.size(1)
        self.refuses(error, zooms_at, (Drawn.size(1001) - Drawn.size(2)).at_most(1))
        self.refuses(error, zooms_at, (beside + Drawn.size(3, down)).at_most(1))
        self.refuses(error, zooms_at, (thousand - Drawn.size(1, Rounding(Ratio(1, 3)))).at_most(1))
        self.assertEqual(len(zooms_at((Drawn.size(999) - 999 * Drawn.size(1)).at_most(0)).marks), 2)
        self.refuses(error, zooms_at, (Drawn.size(LONG) - Drawn.size(LONG - 1)).at_most(1))
        # Edges step at other zooms at other scrolls.
        edges = Drawn.edge(500, down) - Drawn.edge(-500, down)
        self.assertTrue(zooms_at(edges.at_most(4)).marks)
        self.refuses(error, zooms_at, (edges + Drawn.size(1)).at_most(4), Ratio(1, 3))
        self.assertTrue(zooms_at(edges.at_most(4), Ratio(1, 3)).marks)

    def test_most_marks(self):
        cuts = [Fraction(1, 4), Fraction(1, 2), Fraction(3, 4)]
        wave = at_most(total((1, size(2)), (-2, size(1))), 0)
        for last, later in ((3, 5), (1498, 1503), (1499, 1504), (1499, 1500), (1500, 1505)):
            ended = ("and", (wave, at_most(size(1), last)))
            begun = ("or", (ended, ("<", total((-1, size(1)), (1, told(later))))))
            for claim, turns in ((ended, last + 2), (begun, later + 2), (("or", (at_most(size(1), last), wave)), last + 3)):
                many = marks_by_turns(claim, cuts, turns)
                made = made_claim(claim)
                if many > 3000:
                    self.refuses(TooMany("marks", 3000), zooms_at, made)
                else:
                    self.assertLessEqual(len(zooms_at(made).marks), many)
        # At the edge: 3,000 marks up to the last turn in which the set differs, and one turn more.
        ended = (made_claim(wave) & Drawn.size(1).at_most(1499)) | Drawn.size(1).at_least(1504)
        self.assertEqual(len(zooms_at(ended).marks), 3000)
        self.refuses(TooMany("marks", 3000), zooms_at, (made_claim(wave) & Drawn.size(1).at_most(1500)))
        self.refuses(TooMany("marks", 3000), zooms_at, (made_claim(wave) & Drawn.size(1).at_most(10 ** 30)))
        self.assertEqual(zooms_at(made_claim(wave) | Drawn.size(1).at_least(0)), Zooms.everything())

    def test_true_parts(self):
        drift = Drawn.size(1) - Drawn.true(1)
        for claim, text in (
            (drift.at_most(Ratio(1, 4)), "in 1/2 out out 3/4 in in from 0 turn 1"),
            (drift.below(Ratio(1, 4)), "in 1/2 out out 3/4 out in from 0 turn 1"),
            (drift.equals(0), "out 1 in out from 0 turn 1"), (drift.at_most(Ratio(1, 2)), "in from 0 turn 1"),
            (drift.below(Ratio(1, 2)), "in 1/2 out in from 0 turn 1"), (drift.above(Ratio(-1, 2)), "in from 0 turn 1"),
            (drift.at_least(Ratio(-1, 3)), "in 1/3 in out 1/2 in in from 0 turn 1"),
            (drift.at_least(0) & drift.at_most(0) | drift.above(Ratio(1, 3)), "out 1/2 in in 2/3 out out 1 in out from 0 turn 1"),
        ):
            self.assertEqual(str(zooms_at(claim)), text)
        # Several atoms change their truths between the same two steps.
        low, high = drift.at_most(Ratio(1, 3)), drift.at_least(Ratio(1, 5))
        rising = (Drawn.true(1) - Drawn.size(1)).at_most(Ratio(-1, 4))
        for claim, text in (
            (low & high, "out 2/3 in in 4/5 in out from 0 turn 1"), (low | ~high, "in 1/2 out out 2/3 in in from 0 turn 1"),
            (~low | ~high, "in 2/3 out out 4/5 out in from 0 turn 1"), (low & high & rising, "out 2/3 in in 3/4 in out from 0 turn 1"),
            (~rising | high & low, "in 1/2 out out 2/3 in in from 0 turn 1"),
            (drift.equals(Ratio(1, 3)) | drift.equals(Ratio(1, 5)) | drift.equals(Ratio(1, 4)) | drift.equals(Ratio(-1, 4)),
             "out 1/4 in out 2/3 in out 3/4 in out 4/5 in out from 0 turn 1"),
        ):
            self.assertEqual(str(zooms_at(claim)), text)
        # The zoom of the change moves from turn to turn, far away.
        far = zooms_at((Drawn.size(2) - Drawn.true(1)).at_most(10 ** 6))
        for at in (Fraction(part, 60) for part in range(-150, 150)):
            place = 10 ** 6 + at
            self.assertIs(ratio(place) in far, holds(("<=", total((1, size(2)), (1, ("true", -1, 0)), (-1, told(10 ** 6)))), place, 0))
        slow = Drawn.size(10) - Drawn.true(9)
        ended = zooms_at(slow.at_most(3))
        for at in (Fraction(7, 2), Fraction(5, 2), Fraction(26, 10), Fraction(3), Fraction(34, 10), Fraction(29, 10)):
            self.assertIs(ratio(at) in ended, holds(("<=", total((1, size(10)), (1, ("true", -9, 0)), (-1, told(3)))), at, 0))
        # The many turns in which an atom changes its truth between two steps are hidden by another atom.
        hidden = (Drawn.size(10 ** 9) - Drawn.true(10 ** 9 - 1)).at_most(3) | Drawn.size(10 ** 9).at_least(0)
        self.assertEqual(zooms_at(hidden), Zooms.everything())

    def test_any_scroll(self):
        wide = Drawn.edge(3) - Drawn.edge(1)
        for scroll in (0, Ratio(1, 2), -LONG, Ratio(LONG, LONG - 1), Ratio(-1, LONG)):
            zooms = zooms_at(wide.at_least(1), scroll)
            for at in (Ratio(1, 8), Ratio(1, 4), Ratio(1, 3), Ratio(1, 2), Ratio(7, 12), LONG):
                self.assertIs(at in zooms, wide(at, scroll) >= 1)


if __name__ == "__main__":
    unittest.main()
