import random
import unittest
from fractions import Fraction

from allzooms.drawn import Claim, Drawn
from allzooms.errors import BadClaim, BadZoom, TooMany
from allzooms.faces import cells_between
from allzooms.look_views import shows_judge
from allzooms.ratios import Ratio
from allzooms.roundings import Rounding
from allzooms.still import zooms_at
from allzooms.turns import Survey
from allzooms.views import Always, Broken, Verdict, cuts, holds_at, judge, share, turn_of, zooms_always, zooms_ever
from allzooms.zooms import Zooms
from tests.check import LONG, Case, any_values, zoom
from tests.plain_claims import FAR, drawn_claim, holds_at_all, later_claim, own_terms, plain_at, plain_share, small_drawing
from tests.plain_faces import all_faces, cut_list, divisor
from tests.plain_papers import plain_changes
from tests.reckon import fraction, holds, made_claim, ratio

DOWN = Rounding.all_down()
CUTS, TURNS, MARKS = TooMany("cuts", 1000), TooMany("turns", 200), TooMany("marks", 3000)
FUNCTIONS = (turn_of, cuts, judge, share, zooms_always, zooms_ever)


def steps(first, last):
    """A claim whose truths change at the turns from first to last, and one turn more."""
    claim = Claim.of(False)
    for turn in range(first, last):
        claim = claim | Drawn.size(1, DOWN).equals(turn)
    return claim


def wave():
    """A claim with two marks in each turn."""
    return (2 * Drawn.size(1)).at_most(Drawn.size(2))


class ViewsTest(Case):
    def test_wrong_claims(self):
        claims = [value for value in any_values() if isinstance(value, Claim)]
        for work in FUNCTIONS:
            self.refuses_all(lambda value: BadClaim("claim"), lambda value: value in claims, work)
        self.refuses_all(lambda value: BadClaim("claim"), lambda value: value in claims, lambda value: holds_at(value, None))
        claim = Drawn.size(1).at_most(1)
        self.refuses_all(BadZoom, zoom, lambda value: holds_at(claim, value))
        self.assertIs(holds_at(zoom=1, claim=claim), True)
        for work in (turn_of, cuts, judge, share, zooms_always, zooms_ever):
            work(claim=claim)

    def test_true_parts(self):
        drift = Drawn.edge(3) - Drawn.true(3, 1)
        atom, plain = drift.at_most(Ratio(1, 2)), Drawn.size(1).at_least(0)
        error = BadClaim("true")
        hidden = [atom | plain, plain & (atom | plain.__invert__()), (atom & plain) | (plain & ~plain), (atom & plain) | atom]
        for claim in (atom, atom & plain, atom & drift.above(-3) & plain, *hidden):
            self.assertEqual((str(turn_of(claim)), turn_of(claim) == turn_of(claim & plain)), ("1", True))
            self.assertIs(type(cuts(claim)), tuple)
            for work in (share, zooms_always, zooms_ever):
                self.refuses(error, work, claim)
        for claim in hidden:
            self.refuses(error, judge, claim)
            self.refuses(error, holds_at, claim, 1)
            self.refuses(BadZoom(0), holds_at, claim, 0)
            self.refuses(error, shows_judge, claim, None)
        for claim in (atom, atom & plain, atom & drift.above(-3) & plain):
            self.assertTrue(judge(claim) and holds_at(claim, Ratio(7, 3)))
        # An atom that stands outermost, too, may stand within: it holds wherever the claim does.
        self.assertTrue(judge(atom & (atom | ~plain)))
        self.assertFalse(judge(drift.below(Ratio(1, 2)) & (drift.below(Ratio(1, 2)) | plain)))

    def test_turns_and_cuts(self):
        for claim, turn, told in (
            (Claim.of(True), "1", []), (Drawn.size(4).at_most(1), "1/4", ["1/8"]), (Drawn.edge(5).equals(Drawn.edge(5)), "1", []),
            ((Drawn.edge(5) - Drawn.edge(5, DOWN)).equals(0), "1", []), ((Drawn.edge(2) - Drawn.edge(-4)).at_most(0), "1/6", ["1/6"]),
            ((Drawn.edge(2) - Drawn.edge(-4, DOWN)).at_most(0), "1/6", ["1/12"]),
            ((Drawn.edge(7) - Drawn.edge(1) + Drawn.size(4)).at_most(0), "1/2", ["1/8", "1/6", "1/3", "3/8", "1/2"]),
            (Drawn.size(-3, DOWN).at_most(0), "1/3", ["1/3"]), (Drawn.true(3).at_most(0), "1", []),
            ((Drawn.edge(0) - Drawn.edge(0, Rounding(Ratio(1, 3)))).at_most(0), "1", []),
        ):
            self.same(turn_of(claim), turn)
            self.assertEqual([str(cut) for cut in cuts(claim)], told)
        for seed in range(60):
            source = random.Random(seed)
            claim = made_claim(drawn_claim(source))
            terms = own_terms(claim)
            self.assertEqual(fraction(turn_of(claim)), Fraction(1, divisor(terms)))
            self.assertEqual([fraction(cut) for cut in cuts(claim)], cut_list(terms))

    def test_judged_by_all_faces(self):
        kinds = {}
        for seed in range(160):
            source = random.Random(seed)
            tree = drawn_claim(source)
            claim = made_claim(tree)
            text = str(claim)
            found = judge(claim)
            self.assertIs(shows_judge(claim, found), True, (seed, text))
            self.assertEqual(judge(claim), found)
            terms = own_terms(claim)
            has_true = any(drawn.has_true for drawn, _ in claim.atoms)
            kinds[(bool(found), has_true)] = kinds.get((bool(found), has_true), 0) + 1
            if not found:
                self.assertEqual((type(found), type(found.zoom), type(found.scroll)), (Broken, Ratio, Ratio))
                self.assertTrue(found.zoom > 0)
                self.assertFalse(holds(tree, fraction(found.zoom), fraction(found.scroll)), (seed, text))
                continue
            self.assertIs(type(found), Always)
            turns = {0, 1, 2, source.randint(3, 30), FAR, found.turns[-1], found.turns[-1] + 1, *found.turns[:4]}
            for turn in turns:
                for row in all_faces(terms, turn):
                    self.assertTrue(holds_at_all(tree, row), (seed, text, turn))
            self.assertEqual(str(claim), text)
        self.assertTrue(len(kinds) == 4 and min(kinds.values()) > 15, kinds)

    def test_sets_and_shares_by_all_faces(self):
        for seed in range(90):
            source = random.Random(seed)
            tree = drawn_claim(source)
            if source.random() < 0.3:
                tree = later_claim(tree, source)
            claim = made_claim(tree)
            terms = own_terms(claim)
            if any(drawn.has_true for drawn, _ in claim.atoms):
                continue
            text = str(claim)
            try:
                always, ever, part = zooms_always(claim), zooms_ever(claim), share(claim)
            except TooMany as error:
                self.assertTrue(error.what == "marks" and ("0" * 20 in text or "9" * 20 in text), text)
                continue
            self.assertEqual((type(always), type(ever), type(part)), (Zooms, Zooms, Ratio))
            for turn in (0, 1, source.randint(2, 9), FAR - 1, FAR, 2 * FAR):
                for row in all_faces(terms, turn):
                    truths = [holds(tree, *face.view) for face in row]
                    place = ratio(row[0].view[0])
                    self.assertEqual((place in always, place in ever), (all(truths), any(truths)), (seed, text, place))
                    if truths[0] != truths[-1]:
                        self.assertFalse(always >= ever)
            self.assertEqual(fraction(part), plain_share(tree, terms, 100 * FAR), (seed, text))
            self.assertEqual((zooms_always(~claim), zooms_ever(~claim), share(~claim)), (~ever, ~always, 1 - part))
            self.assertEqual(str(claim), text)

    def test_holds_at_by_all_faces(self):
        for seed in range(150):
            source = random.Random(seed)
            tree = drawn_claim(source)
            claim = made_claim(tree)
            terms = own_terms(claim)
            for place in [Fraction(source.randint(1, 60), source.choice((1, 2, 3, 4, 6, 12, 35))), FAR + Fraction(1, 6)]:
                self.assertIs(holds_at(claim, ratio(place)), plain_at(tree, terms, place)[0], (seed, place))
            self.assertIs(holds_at(claim, 2), plain_at(tree, terms, Fraction(2))[0])

    def test_sure_claims(self):
        for truth in (True, False):
            claim = Claim.of(truth)
            self.assertIs(holds_at(claim, LONG), truth)
            zooms = Zooms.everything() if truth else Zooms.nothing()
            self.assertEqual((zooms_always(claim), zooms_ever(claim), cuts(claim)), (zooms, zooms, ()))
            self.same(share(claim), "1" if truth else "0")
            self.assertIs(bool(judge(claim)), truth)
        self.assertEqual(judge(Claim.of(True)), Always((0, 1), (0,)))

    def test_claims_without_terms(self):
        for claim, is_true, is_ever in (
            (Drawn.true(1).at_least(0), True, True), (Drawn.true(1).above(0), True, True), (Drawn.true(-1).above(-5), False, True),
            (Drawn.true(1).at_most(0), False, False),
        ):
            self.assertIs(bool(judge(claim)), is_true)
            self.assertEqual(turn_of(claim), 1)
        self.assertTrue(judge((Drawn.edge(0) - Drawn.true(0, 1)).at_most(Ratio(1, 2))))
        self.assertFalse(judge((Drawn.edge(0) - Drawn.true(0, 1)).below(Ratio(1, 2))))
        self.assertTrue(judge((Drawn.edge(-3) - Drawn.true(-3, 1)).above(Ratio(-1, 2))))

    def test_strict_bounds_at_level_faces(self):
        # The true part goes along with the place: on it the worth is level.
        self.assertFalse(judge((Drawn.edge(5, DOWN) - Drawn.true(5, 1)).below(0)))
        self.assertTrue(judge((Drawn.edge(5, DOWN) - Drawn.true(5, 1)).above(-1)))
        self.assertTrue(judge((Drawn.edge(5, Rounding.all_up()) - Drawn.true(5, 1)).below(1)))
        self.assertTrue(judge((Drawn.size(2) - Drawn.true(2)).above(Ratio(-1, 2))))
        self.assertFalse(judge((Drawn.size(2) - Drawn.true(2)).below(Ratio(1, 2))))
        self.assertFalse(judge((Drawn.edge(1) - Drawn.edge(0)).below(Drawn.true(1) + 1) & Drawn.size(1).at_most(7)))

    def test_a_bound_that_is_only_touched(self):
        # One atom only comes near to its bound, the other one goes beyond its own.
        drift = Drawn.edge(1, Rounding.half_down()) - Drawn.true(1, 1)
        for claim in (drift.at_most(Ratio(1, 2)) & drift.at_most(Ratio(2, 5)), drift.below(Ratio(1, 2)) & drift.below(Ratio(2, 5)),
                      drift.at_most(Ratio(1, 2)) & drift.at_most(Ratio(499999, 1000000))):
            found = judge(claim)
            self.assertFalse(claim(found.zoom, found.scroll))
            self.assertIs(shows_judge(claim, found), True)
        self.assertTrue(judge(drift.below(Ratio(1, 2)) & drift.at_least(Ratio(-1, 2))))

    def test_single_zooms(self):
        same = (Drawn.edge(3) - Drawn.edge(1)).equals(Drawn.size(2, DOWN))
        self.assertEqual(str(zooms_always(same)), "out 1/2 in out from 0 turn 1/2")
        self.assertEqual(zooms_always(same).share, 0)
        self.same(share(same), "1/2")
        off = (Drawn.edge(0) + Drawn.size(1)).equals(Drawn.edge(1))
        self.same(share(off), "3/4")

    def test_far_changes(self):
        for far in (10, FAR, LONG - 7):
            low, high = Drawn.size(1).below(far), Drawn.size(2).at_least(2 * far - 1)
            self.assertEqual(judge(low | high), Always((0, Ratio(1, 4), Ratio(1, 2), Ratio(3, 4), 1), (0, far - 2, far - 1, far)))
            self.assertEqual(zooms_always(low), Zooms.between(0, far - Ratio(1, 2), True, False))
            self.assertEqual(zooms_always(high), Zooms.beyond(far - Ratio(3, 4)))
            found = judge(Drawn.size(1).at_most(far))
            self.assertFalse(Drawn.size(1).at_most(far)(found.zoom, found.scroll))
            late = (Drawn.edge(2) - Drawn.edge(1)).at_most(far)
            self.assertEqual((zooms_always(late).holds_from, zooms_ever(late).holds_from), (None, None))
            self.assertEqual((zooms_always(~late).first, zooms_ever(~late).first), ((far + 1, True), (far, False)))
            self.assertEqual((share(late), share(~late), share(low), share(high)), (0, 1, 0, 1))
            only = Drawn.size(1, DOWN).equals(far) & Drawn.size(1, Rounding.all_up()).equals(far)
            self.assertEqual(zooms_ever(only), Zooms.between(far, far))

    def test_choices(self):
        one, two = Drawn.size(1), Drawn.size(2)
        self.assertTrue(judge((one | two).equals(two)))
        self.assertTrue(judge((one & two).equals(one)))
        self.assertFalse(judge((one | 3).equals(one)))
        self.assertEqual(str(zooms_always((one | 3).equals(one))), "out 5/2 in in from 5/2 turn 1")
        self.assertEqual(judge((one | FAR).at_least(FAR)).turns, (0, FAR - 2, FAR - 1, FAR, FAR + 1))
        inner = (((one | 5) & (two | 9)) | 7).at_least(7)
        self.assertTrue(judge(inner) and shows_judge(inner, judge(inner)))
        self.assertEqual(judge(inner).turns[0], 0)
        self.assertFalse(judge((Drawn.edge(1) | Drawn.edge(0)).at_most(Drawn.edge(0) + Drawn.size(1))))

    def test_long_numbers(self):
        unit, rounding = LONG, Rounding(Ratio(LONG - 2, LONG), False)
        near = (Drawn.edge(unit, rounding) - Drawn.edge(-unit, rounding) - Drawn.size(2 * unit, rounding))
        self.assertEqual((turn_of(near.at_most(1)) * (2 * LONG), len(cuts(near.at_most(1)))), (1, 2))
        self.assertTrue(judge(near.at_most(1)) and judge(near.at_least(-1)) and not judge(near.at_most(0)))
        self.assertFalse(judge(near.below(Ratio(LONG, LONG - 1)) & near.at_least(Ratio(-1, LONG))))
        self.assertTrue(holds_at(near.at_most(Ratio(LONG, LONG - 1)), Ratio(LONG, LONG - 1)))
        self.assertIs(type(share(near.at_most(0))), Ratio)
        self.assertTrue(zooms_ever(near.at_most(0)))

    def test_most_cuts(self):
        thousand = (Drawn.size(1000, DOWN) - 1000 * Drawn.size(1, DOWN)).at_most(999)
        more = (Drawn.size(1000, DOWN) - 1000 * Drawn.size(1, Rounding(Ratio(1, 3)))).at_most(999)
        far = (Drawn.size(LONG) - LONG * Drawn.size(1)).at_most(LONG)
        edges = (Drawn.edge(1000) - Drawn.edge(0) - Drawn.size(1, Rounding(Ratio(1, 3)))).at_most(0)
        self.assertEqual((len(cuts(thousand)), turn_of(far), holds_at(far, 1), turn_of(more)), (1000, 1, True, 1))
        for claim in (more, far, edges, thousand & Drawn.size(3).at_most(1)):
            for work in (cuts, judge, share, zooms_always, zooms_ever, lambda claim: shows_judge(claim, None)):
                self.refuses(CUTS, work, claim)
            self.assertIs(holds_at(claim, 1), plain_holds(claim, 1))
            self.assertIs(shows_judge(claim, Broken(Ratio(5), Ratio(0))), not claim(5))
        self.assertTrue(judge(thousand) and shows_judge(thousand, judge(thousand)))
        self.assertEqual((share(thousand), zooms_always(thousand)), (1, Zooms.everything()))
        self.assertEqual(len(cuts((Drawn.edge(500) - Drawn.edge(-500, DOWN) + Drawn.edge(499) - Drawn.edge(499)).at_most(0))), 1)
        true = Drawn.edge(1001) - Drawn.edge(0) + Drawn.size(1) - Drawn.true(1)
        self.refuses(BadClaim("true"), judge, true.at_most(0) | thousand)
        self.refuses(BadClaim("true"), share, true.at_most(0))
        self.refuses(CUTS, judge, true.at_most(0))

    def test_most_turns(self):
        for many, is_let in ((200, True), (201, False)):
            claim = steps(1, many)
            self.assertTrue(holds_at(claim, 2) and turn_of(claim) == 1 and cuts(claim) == (1,))
            for work in (judge, share, zooms_always, zooms_ever):
                if is_let:
                    work(claim)
                else:
                    self.refuses(TURNS, work, claim)
        self.assertEqual(str(zooms_always(steps(1, 200))), "out 1 in in 200 out out from 200 turn 1")
        always = judge(steps(1, 200) | Drawn.size(1).at_least(0))
        self.assertEqual(always.turns, tuple(range(201)))
        sparse = Claim.of(False)
        for turn in range(100):
            sparse = sparse | Drawn.size(1, DOWN).at_most(5 * turn + 7)
        found = judge(sparse | Drawn.size(1).at_least(0))
        self.assertEqual((len(found.turns), shows_judge(sparse | Drawn.size(1).at_least(0), found)), (301, True))
        self.refuses(TURNS, judge, sparse | Drawn.size(1, DOWN).at_least(600))
        # Choices change, too, and each atom with a true part.
        bound = Drawn.plain(0)
        for turn in range(24):
            bound = bound + (Drawn.size(1, DOWN) & 10 * turn + 5)
        self.assertEqual(len(judge(bound.at_least(0)).turns), 1 + 24 * 4)

    def test_most_marks(self):
        for last, many in ((1498, 3000), (1499, 3002)):
            claim = wave() & (Drawn.size(1).at_most(last) | Drawn.size(1).at_least(0))
            later = wave() & Drawn.size(1).at_least(1) & (Drawn.size(1).at_most(last) | Drawn.size(1).at_least(0))
            for work in (zooms_always, zooms_ever):
                if many <= 3000:
                    self.assertEqual(work(claim), zooms_at(wave()))
                    self.assertEqual(work(later), zooms_at(wave()) & Zooms.beyond(Ratio(1, 2)))
                else:
                    # The second one has just 3,001.
                    self.refuses(MARKS, work, claim)
                    self.refuses(MARKS, work, later)
            self.assertTrue(judge(claim | ~wave()) and share(claim) == Ratio(3, 4))
        self.refuses(MARKS, zooms_always, wave() & (Drawn.size(1).at_most(FAR) | Drawn.size(1).at_least(0)))
        self.assertEqual(zooms_always(wave() | Drawn.size(1).at_most(FAR) | Drawn.size(1).at_least(0)), Zooms.everything())
        one = (Drawn.edge(1) - Drawn.edge(0)).at_most(FAR)
        self.assertEqual(zooms_always(one), Zooms.between(0, FAR))

    def test_errors_in_their_order(self):
        many = (Drawn.size(2000) - Drawn.size(1)).at_most(0)
        self.refuses(CUTS, judge, many & steps(1, 300))
        self.refuses(TURNS, zooms_always, steps(1, 300) & (wave() | Drawn.size(1).at_least(10 ** 9)))
        self.refuses(BadClaim("true"), zooms_ever, many & Drawn.true(1).at_most(0))

    def test_changes_by_all_turns(self):
        many = 0
        for seed in range(60):
            source = random.Random(seed)
            drawing = small_drawing(source)
            thing = drawing.thing(source.choice((1, 1, 2)), source.random() < 0.4, 0, source.random() < 0.3)
            claim = made_claim((source.choice(("<=", "<")), thing))
            if len(own_terms(claim)) > 5 or len(cuts(claim)) > 9:
                continue
            survey = Survey(claim)
            for low, high in cells_between(survey.frame.mark_row()):
                survey.cell_stories(low, high)
            found = plain_changes(claim, 14)
            self.assertEqual({turn for turn in survey.change_turns if turn < 14}, found, (seed, str(claim)))
            many += len(found)
        self.assertTrue(many > 20)

    def test_papers(self):
        values = any_values()
        for paper, names, is_true in ((Always, ("marks", "turns"), True), (Broken, ("zoom", "scroll"), False)):
            for value in values:
                made = paper(value, [value])
                self.assertTrue(isinstance(made, Verdict) and bool(made) is is_true)
                self.assertEqual(vars(made), {names[0]: value, names[1]: [value]})
                self.assertTrue(made == paper(**{names[1]: [value], names[0]: value}) and made != paper([value], value))
            self.assertFalse(paper(1, 2) == Always(3, 2) or paper(1, 2) == Broken(1, 3))
            self.assertFalse(paper(1, 2) == Always(1, 3) or paper(1, 2) == Broken(3, 2) or paper(1, 2) == (1, 2))
        self.assertFalse(Always(1, 2) == Broken(1, 2))
        self.assertTrue(Always(1, True) == Always(Ratio(1), 1))


def plain_holds(claim, place):
    """Whether a claim holds at a zoom at scrolls that lie close by one another."""
    return all(claim(place, Ratio(scroll, 24)) for scroll in range(24))


if __name__ == "__main__":
    unittest.main()
