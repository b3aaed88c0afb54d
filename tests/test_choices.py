import random
import unittest
from fractions import Fraction

from allzooms.choices import Tight, best_rounding, follows, offered, spared, tightest
from allzooms.drawn import Claim, Drawn
from allzooms.errors import BadClaim, BadNumber, BadRounding, BadZoom, NoBox, TooMany
from allzooms.look_choices import shows_tight
from allzooms.look_views import shows_judge
from allzooms.most import greatest
from allzooms.ratios import Ratio
from allzooms.roundings import Rounding
from allzooms.views import Always, Broken, Verdict, holds_at, judge, share
from tests.check import LONG, Case, any_values, integer, zoom
from tests.plain_claims import FAR, claim_tree, drawn_claim, drawn_thing, own_terms, plain_share, small_drawing
from tests.plain_faces import all_faces
from tests.reckon import fraction, holds, made, made_claim, ratio
from tests.test_most import overtaken

HALF, UP, DOWN = Rounding.half_up(), Rounding.all_up(), Rounding.all_down()
CUTS, TURNS, TRUE, MAKE = TooMany("cuts", 1000), TooMany("turns", 200), BadClaim("true"), BadClaim("make")
CROWDED = (Drawn.size(2001) - Drawn.size(2)).at_most(0)
HIDDEN = Drawn.true(1).at_most(0) | Drawn.size(1).at_most(0)


def is_claim(value):
    return isinstance(value, Claim)


class Maker:
    """What makes claims of numbers or roundings, and keeps what it was asked for."""

    def __init__(self, told):
        self.told = told
        self.asked = []

    def __call__(self, number):
        self.asked.append(number)
        return self.told(number)


class OfferedTest(Case):
    def test_wrong_arguments(self):
        plain = Drawn.size(1).at_most(1)
        for value in any_values():
            if not is_claim(value):
                for zooms in (None, [0], [1], []):
                    self.refuses(BadClaim("claim"), offered, value, zooms)
            if not isinstance(value, (list, tuple)):
                self.refuses(BadZoom(value), offered, plain, value)
                self.refuses(BadZoom(value), offered, HIDDEN, value)
            if not zoom(value):
                for claim in (plain, HIDDEN, CROWDED):
                    self.refuses(BadZoom(value), offered, claim, [1, value, -1, None])
                    self.refuses(BadZoom(value), offered, claim, (value,))
        for zooms in ([], (), [1], (Ratio(1, 2), 3)):
            self.refuses(TRUE, offered, HIDDEN, zooms)
        self.assertEqual(offered(zooms=[1], claim=plain), (1,))

    def test_by_holds_at(self):
        several = 0
        for seed in range(80):
            source = random.Random(seed)
            claim = made_claim(drawn_claim(source))
            zooms = [source.choice((source.randint(1, 9), Ratio(source.randint(1, 40), 12), Ratio(LONG, 2), LONG)) for _ in range(9)]
            zooms += zooms[:2]
            kept = list(zooms)
            found = offered(claim, source.choice((list, tuple))(zooms))
            self.assertIs(type(found), tuple)
            self.assertTrue(all(isinstance(place, Ratio) for place in found))
            self.assertEqual(found, tuple(place for place in zooms if holds_at(claim, place)))
            self.assertEqual(zooms, kept)
            several += 0 < len(found) < len(zooms)
        self.assertTrue(several > 15, several)
        self.assertEqual((offered(CROWDED, [1, Ratio(1, 3), 1]), offered(CROWDED, []), offered(Claim.of(True), ())), ((), (), ()))
        self.assertEqual(offered(~CROWDED, (2, 1, 2)), (2, 1, 2))


class BestRoundingTest(Case):
    def test_wrong_arguments(self):
        for work in (len, lambda rounding: None, None):
            self.refuses(BadRounding("none"), best_rounding, work)
            for value in any_values():
                if not isinstance(value, Rounding):
                    maker = Maker(lambda rounding: None)
                    self.refuses(BadRounding(0), best_rounding, maker, value, None)
                    self.refuses(BadRounding(2), best_rounding, maker, UP, HALF, value, DOWN, 7)
                    self.assertEqual(maker.asked, [])
        for value in any_values():
            if not is_claim(value):
                self.refuses(MAKE, best_rounding, lambda rounding: value, HALF)
                self.refuses(MAKE, best_rounding, lambda rounding: HIDDEN if rounding == UP else value, UP, HALF)

    def test_errors_as_share(self):
        for told, error in ((lambda rounding: HIDDEN, TRUE), (lambda rounding: CROWDED, CUTS), (lambda rounding: CROWDED if rounding == UP else HIDDEN, TRUE),
                            (lambda rounding: CROWDED if rounding == UP else Claim.of(True), CUTS)):
            self.refuses(error, best_rounding, told, HALF, UP, DOWN)
        self.refuses(TRUE, best_rounding, lambda rounding: Drawn.true(1).at_most(0), UP)
        many = overtaken(202).at_most(10 ** 9)
        self.refuses(TURNS, best_rounding, lambda rounding: many, HALF, UP)
        # The error that is listed first goes ahead, of whichever claim it is told.
        self.refuses(CUTS, best_rounding, lambda rounding: CROWDED if rounding == UP else many, HALF, UP)
        self.refuses(MAKE, best_rounding, lambda rounding: None if rounding == UP else HIDDEN, HALF, UP)

    def test_errors_of_make(self):
        def wrong(rounding):
            if rounding == UP:
                raise KeyError("own")
            return Claim.of(True)

        def refused(rounding):
            raise NoBox("own")

        self.assertRaises(KeyError, best_rounding, wrong, HALF, UP, DOWN)
        self.refuses(NoBox("own"), best_rounding, refused, HALF)

    def test_by_shares(self):
        for seed in range(40):
            source = random.Random(seed)
            drawing = small_drawing(source)
            thing, units = drawn_thing(drawing, False, True), [source.randint(-3, 4) for _ in range(2)]
            roundings = [Rounding(Ratio(source.randint(1, 3), 4), source.random() < 0.5) for _ in range(source.randint(1, 4))]

            def tree(rounding):
                kind = fraction(rounding.threshold), rounding.is_from
                parts = (1, thing), (1, ("edge", units[0], kind)), (-1, ("edge", units[1], kind)), (units[1] - units[0], ("size", 1, (Fraction(1, 2), True)))
                return "<=", ("sum", parts)

            maker = Maker(lambda rounding: made_claim(tree(rounding)))
            found = best_rounding(maker, *roundings)
            shares = [share(made_claim(tree(rounding))) for rounding in roundings]
            most = max(fraction(part) for part in shares)
            self.assertEqual((fraction(found[1]), found[0]), (most, [fraction(part) for part in shares].index(most)))
            self.assertTrue(type(found) is tuple and isinstance(found[1], Ratio) and type(found[0]) is int)
            self.assertTrue(len(maker.asked) == len(roundings) and all(one is other for one, other in zip(maker.asked, roundings)))
            best = tree(roundings[found[0]])
            terms = own_terms(made_claim(best))
            self.assertEqual(plain_share(best, terms, FAR), most)
        self.assertEqual(best_rounding(lambda rounding: Claim.of(False), HALF, UP), (0, 0))
        self.assertEqual(best_rounding(lambda rounding: Claim.of(rounding == DOWN), HALF, DOWN, UP, DOWN), (1, 1))
        self.assertEqual(best_rounding(lambda rounding: Claim.of(True), UP, UP), (0, 1))


class TightestTest(Case):
    def test_wrong_arguments(self):
        for work in (lambda make, low, high: tightest(make, low, high), lambda make, low, high: shows_tight(make, low, high, None)):
            for value in any_values():
                maker = Maker(lambda number: None)
                if not integer(value):
                    self.refuses(BadNumber(value), work, maker, value, None)
                    self.refuses(BadNumber(value), work, maker, value, -5)
                    self.refuses(BadNumber(value), work, maker, 0, value)
                else:
                    self.refuses(BadNumber(value - 1), work, maker, value, value - 1)
                self.assertEqual(maker.asked, [])
        for value in any_values():
            if not is_claim(value):
                maker = Maker(lambda number: value)
                self.refuses(MAKE, tightest, maker, 0, 5)
                self.assertEqual(maker.asked, [5])
                self.refuses(MAKE, tightest, lambda number: Claim.of(True) if number == 5 else value, 0, 5)
        self.assertEqual(tightest(high=1, low=1, make=lambda number: Claim.of(True)).number, 1)

    def test_errors_as_judge(self):
        self.refuses(TRUE, tightest, lambda number: HIDDEN, 0, 5)
        self.refuses(CUTS, tightest, lambda number: CROWDED, 0, 5)
        self.refuses(CUTS, tightest, lambda number: Claim.of(True) if number == 5 else CROWDED, 0, 5)
        many = overtaken(202).at_most(10 ** 9)
        self.refuses(TURNS, tightest, lambda number: many, 0, 5)
        self.refuses(TURNS, tightest, lambda number: Claim.of(True) if number == 5 else many, 0, 5)
        self.assertIs(shows_tight(lambda number: many, 0, 5, Tight(0, None, None)), False)

    def test_errors_of_make(self):
        def wrong(number):
            raise KeyError(number)

        def refused(number):
            if number < 3:
                raise NoBox("own")
            return Claim.of(True)

        self.assertRaises(KeyError, tightest, wrong, 0, 5)
        self.refuses(NoBox("own"), tightest, refused, 0, 5)
        self.assertRaises(KeyError, shows_tight, wrong, 0, 5, Tight(3, None, None))
        self.refuses(NoBox("own"), shows_tight, refused, 0, 5, Tight(3, None, None))

    def test_by_greatest_worths(self):
        kinds = {}
        for seed in range(90):
            source = random.Random(seed)
            drawn = made(drawn_thing(small_drawing(source), source.random() < 0.4, source.random() < 0.8))
            found = greatest(drawn)
            low = source.choice((-30, -LONG, 0, -3))
            high = source.choice((40, LONG, 0, low))
            high = max(low, high)
            maker = Maker(drawn.at_most)
            told = tightest(maker, low, high)
            self.assertTrue(len(maker.asked) <= 120 and all(low <= number <= high for number in maker.asked))
            if not found or found.number > high:
                self.assertIs(told, None)
                kinds[None] = kinds.get(None, 0) + 1
                continue
            least = max(low, found.number.ceiling())
            self.assertEqual((told.number, type(told.number)), (least, int))
            self.assertIs(shows_judge(drawn.at_most(least), told.always), True)
            self.assertIs(type(told.always), Always)
            if least == low:
                self.assertIs(told.broken, None)
            else:
                self.assertTrue(shows_judge(drawn.at_most(least - 1), told.broken) and type(told.broken) is Broken)
            self.check_looker(drawn.at_most, low, high, told)
            kinds[least == low] = kinds.get(least == low, 0) + 1
        self.assertTrue(len(kinds) == 3 and min(kinds.values()) > 8, kinds)

    def check_looker(self, make, low, high, told):
        maker = Maker(make)
        self.assertIs(shows_tight(maker, low, high, told), True)
        self.assertTrue(len(maker.asked) <= 2 and all(low <= number <= high for number in maker.asked))

    def test_claims_that_come_and_go(self):
        for seed in range(200):
            source = random.Random(seed)
            low = source.randint(-9, 9)
            high = low + source.choice((0, 1, 2, 3, 10, 50))
            holding = {number: source.random() < 0.5 for number in range(low, high + 1)}
            maker = Maker(lambda number: Claim.of(holding[number]))
            told = tightest(maker, low, high)
            self.assertTrue(len(maker.asked) <= 120)
            if not holding[high]:
                self.assertIs(told, None)
                continue
            self.assertTrue(low <= told.number <= high and holding[told.number])
            self.assertTrue(told.broken is None if told.number == low else not holding[told.number - 1])
            self.check_looker(lambda number: Claim.of(holding[number]), low, high, told)

    def test_far_bounds(self):
        for first in (-LONG, LONG, 0, 1 - LONG, LONG - 1, 12345678901234567890):
            maker = Maker(lambda number: Claim.of(number >= first))
            told = tightest(maker, -LONG, LONG)
            self.assertEqual((told.number, told.broken is None), (first, first == -LONG))
            self.assertTrue(len(maker.asked) <= 120)
            self.check_looker(lambda number: Claim.of(number >= first), -LONG, LONG, told)
        source = random.Random(1)
        for _ in range(40):
            maker = Maker(lambda number: Claim.of(number == LONG or source.random() < 0.5))
            tightest(maker, -LONG, LONG)
            self.assertTrue(len(maker.asked) <= 120 and all(-LONG <= number <= LONG for number in maker.asked))

    def test_true_parts(self):
        drift = Drawn.edge(3) - Drawn.true(3, 1)
        told = tightest(lambda number: (6 * drift).at_most(number) & (6 * drift).at_least(-number), -100, 100)
        self.assertEqual((told.number, told.broken.zoom > 0), (3, True))
        self.refuses(TRUE, tightest, lambda number: drift.at_most(number) | drift.at_least(9), 0, 3)

    def test_changed_papers(self):
        drawn = 3 * Drawn.size(1) - Drawn.size(3)
        told = tightest(drawn.at_most, -5, 5)
        always, broken = told.always, told.broken
        marks, turns = always.marks, always.turns
        for number, low, high, paper, view, is_right in (
            (1, -5, 5, always, broken, True), (1, 0, 1, always, broken, True), (1, 1, 1, always, None, True), (1, 1, 1, always, broken, False),
            (1, 1, 7, always, None, True), (1, 0, 7, always, None, False), (0, -5, 5, always, broken, False), (2, -5, 5, always, broken, False),
            (2, 2, 5, judge(drawn.at_most(2)), None, True), (1, 2, 5, always, None, False), (1, -5, 0, always, broken, False), (6, -5, 5, always, broken, False),
            (1, -5, 5, broken, always, False), (1, -5, 5, always, always, False), (1, -5, 5, broken, broken, False), (1, -5, 5, None, broken, False),
            (1, -5, 5, Always(marks, (*turns, turns[-1] + 9)), broken, True), (1, -5, 5, Always((marks[0], marks[1].divided(2), *marks[1:]), turns), broken, True),
            (1, -5, 5, Always(marks[:-1], turns), broken, False), (1, -5, 5, always, Broken(Ratio(1, 2), Ratio(0)), True),
            (1, -5, 5, always, Broken(Ratio(1), Ratio(0)), False), (1, -5, 5, always, Broken(0, 0), False), (0, 0, 5, broken, None, False),
            (True, -5, 5, always, broken, False), (Ratio(1), -5, 5, always, broken, False),
        ):
            maker = Maker(drawn.at_most)
            self.assertIs(shows_tight(maker, low, high, Tight(number, paper, view)), is_right, (number, low, high))
            self.assertTrue(len(maker.asked) <= 2 and all(low <= asked <= high for asked in maker.asked))
        for value in any_values():
            self.assertIs(shows_tight(drawn.at_most, -5, 5, value), False)
            self.assertIs(shows_tight(drawn.at_most, -5, 5, Tight(value, always, broken)), integer(value) and value == 1)
            for paper, parts in ((Tight(1, value, broken), value), (Tight(1, always, value), value)):
                claims = {1: drawn.at_most(1), 0: drawn.at_most(0)}
                is_right = (isinstance(paper.always, Always) and isinstance(paper.broken, Broken)
                            and shows_judge(claims[1], paper.always) and shows_judge(claims[0], paper.broken))
                self.assertIs(shows_tight(drawn.at_most, -5, 5, paper), is_right, parts)
            self.assertIs(shows_tight(drawn.at_most, 1, 5, Tight(1, always, value)), value is None)
            if not is_claim(value):
                self.refuses(MAKE, shows_tight, lambda number: value, 0, 5, told)
                self.refuses(MAKE, shows_tight, lambda number: value if number == 0 else drawn.at_most(number), 0, 5, told)
        level = [judge(drawn.at_most(number)) for number in (2, 3)]
        self.assertIs(shows_tight(drawn.at_most, 0, 5, Tight(3, level[1], level[0])), False)
        self.refuses(TRUE, shows_tight, lambda number: HIDDEN, 0, 5, told)
        self.refuses(CUTS, shows_tight, lambda number: CROWDED, 0, 5, told)
        self.assertIs(shows_tight(value=told, high=5, low=-5, make=drawn.at_most), True)

    def test_papers_of_any_values(self):
        for value in any_values():
            paper = Tight(number=value, always=value, broken=value)
            self.assertTrue(all(told is value for told in vars(paper).values()) and bool(paper) and paper == Tight(value, value, value))
            for at in range(3):
                parts = [value, value, value]
                parts[at] = "other"
                self.assertFalse(paper == Tight(*parts))
            self.assertFalse(paper == value)
        self.assertEqual((list(vars(Tight(1, 2, 3))), isinstance(Tight(1, 2, 3), Verdict)), (["number", "always", "broken"], False))


class FollowsTest(Case):
    def test_wrong_arguments(self):
        plain = Drawn.size(1).at_most(1)
        for value in any_values():
            if not is_claim(value):
                self.refuses(BadClaim("one"), follows, value, value)
                self.refuses(BadClaim("one"), follows, value, plain)
                self.refuses(BadClaim("other"), follows, plain, value)
                self.refuses(BadClaim("other"), follows, HIDDEN, value)
                self.refuses(BadClaim(0), spared, value, None)
                self.refuses(BadClaim(2), spared, plain, HIDDEN, value, 5, plain)
        for one, other, error in ((HIDDEN, plain, TRUE), (plain, HIDDEN, TRUE), (CROWDED, plain, CUTS), (plain, CROWDED, CUTS), (CROWDED, HIDDEN, TRUE)):
            self.refuses(error, follows, one, other)
            self.refuses(error, spared, one, other)
        self.refuses(TRUE, spared, CROWDED, plain, HIDDEN)
        self.assertTrue(follows(other=plain, one=plain))

    def test_by_views(self):
        kinds = {}
        for seed in range(120):
            source = random.Random(seed)
            drawing = small_drawing(source)
            one, other = claim_tree(drawing, 1), claim_tree(drawing, 1)
            if source.random() < 0.3:
                other = "and", (other, one)
            if source.random() < 0.15:
                one = "or", (one, claim_tree(drawing, 0))
            claims = made_claim(one), made_claim(other)
            texts = [str(claim) for claim in claims]
            found = follows(*claims)
            self.assertEqual(found, judge(claims[0] | ~claims[1]))
            self.assertIs(shows_judge(claims[0] | ~claims[1], found), True)
            if found:
                terms = own_terms(claims[0] | ~claims[1])
                views = [face.view for turn in (0, 1, 5, FAR) for row in all_faces(terms, turn) for face in row]
                self.assertTrue(all(holds(one, *view) or not holds(other, *view) for view in views))
            else:
                view = fraction(found.zoom), fraction(found.scroll)
                self.assertTrue(holds(other, *view) and not holds(one, *view))
            self.assertEqual([str(claim) for claim in claims], texts)
            kinds[bool(found)] = kinds.get(bool(found), 0) + 1
        self.assertTrue(min(kinds.values()) > 25, kinds)

    def test_true_parts(self):
        drift = Drawn.edge(1) - Drawn.true(1, 1)
        self.assertTrue(follows(drift.at_most(Ratio(1, 2)), Claim.of(True)))
        self.assertFalse(follows(drift.below(Ratio(1, 2)), Claim.of(True)))
        self.assertTrue(follows(Claim.of(False), drift.above(Ratio(1, 2))))
        self.assertTrue(follows(drift.at_most(1), Claim.of(False)))
        self.assertEqual(spared(drift.at_most(Ratio(1, 2))), (0,))
        self.assertEqual(spared(drift.at_most(Ratio(1, 3))), ())

    def test_spared_by_verdicts(self):
        several = 0
        for seed in range(80):
            source = random.Random(seed)
            drawing = small_drawing(source)
            trees = [claim_tree(drawing, source.randint(0, 1)) for _ in range(source.randint(1, 3))]
            if source.random() < 0.4:
                trees.append(source.choice(trees))
            if source.random() < 0.4:
                trees.append(("or", (source.choice(trees), claim_tree(drawing, 0))))
            claims = [made_claim(tree) for tree in trees]
            found = spared(*claims)
            self.assertTrue(type(found) is tuple and list(found) == sorted(set(found)))
            for at, claim in enumerate(claims):
                others = Claim.of(True)
                for other in claims[:at] + claims[at + 1:]:
                    others = others & other
                told = judge(claim | ~others)
                self.assertEqual(bool(told), at in found)
                rest = trees[:at] + trees[at + 1:]
                if told:
                    terms = own_terms(claim | ~others)
                    for view in [face.view for turn in (0, 1, FAR) for row in all_faces(terms, turn) for face in row]:
                        self.assertTrue(holds(trees[at], *view) or not all(holds(tree, *view) for tree in rest))
                else:
                    view = fraction(told.zoom), fraction(told.scroll)
                    self.assertTrue(all(holds(tree, *view) for tree in rest) and not holds(trees[at], *view))
            several += 0 < len(found) < len(claims)
        self.assertTrue(several > 15, several)

    def test_spared_edges(self):
        one, two = Drawn.size(1).at_least(1), Drawn.size(2).at_least(2)
        self.assertEqual((spared(), spared(Claim.of(True)), spared(Claim.of(False)), spared(one)), ((), (0,), (), ()))
        self.assertEqual((spared(one, one, two), spared(two, one), spared(Claim.of(False), one, Claim.of(False))), ((0, 1), (1,), (0, 1, 2)))
        far = Drawn.size(1).at_least(FAR), Drawn.size(2).at_least(2 * FAR), Drawn.size(1).at_least(FAR - 1)
        self.assertEqual(spared(*far), (0, 2))
        self.assertEqual(spared(far[1], far[0]), (1,))


if __name__ == "__main__":
    unittest.main()
