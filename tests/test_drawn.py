import random
import unittest
from fractions import Fraction

from allzooms.drawn import Claim, Drawn
from allzooms.errors import BadClaim, BadDrawn, BadNumber, BadScroll, BadZoom, TooMany
from allzooms.ratios import Ratio
from allzooms.roundings import Rounding
from tests.check import LONG, Case, any_values, integer, number, zoom
from tests.reckon import Drawing, fraction, growth, holds, made, made_claim, ratio, weight, worth


def drawn_views(source, many=12):
    """Views near and far, at steps and between them."""
    for _ in range(many):
        far = source.choice((3, 30, LONG))
        zooms = Fraction(source.randint(1, far), source.choice((1, 2, 3, 4, 10, 12, 60, LONG)))
        yield zooms, Fraction(source.randint(-far, far), source.choice((1, 2, 3, 4, 12)))


def beside(value):
    """Whether a value can stand beside a Drawn."""
    return number(value) or isinstance(value, Drawn)


class DrawnTest(Case):
    def test_terms_and_plain(self):
        up = Rounding.all_up()
        for thing, text in (
            (Drawn.edge(3), "edge 3 from 1/2"), (Drawn.edge(0, up), "edge 0 above 0"), (Drawn.edge(-2), "edge -2 from 1/2"),
            (Drawn.size(unit=2, rounding=up), "size 2 above 0"), (Drawn.size(0, up), "0"), (Drawn.true(0), "0"),
            (Drawn.true(unit=2, moves=-3), "true 2 and -3"), (Drawn.true(-2, 3), "- true 2 and -3"),
            (Drawn.true(0, -1), "- true 0 and 1"), (Drawn.plain(number=Ratio(-1, 2)), "-1/2"),
            (Drawn.edge(LONG, None), f"edge {LONG} from 1/2"),
        ):
            self.assertEqual(str(thing), text)

    def test_wrong_parts(self):
        for value in any_values():
            if not integer(value):
                for make in (Drawn.edge, Drawn.size):
                    self.refuses(BadDrawn("unit"), make, value, "x")
                self.refuses(BadDrawn("unit"), Drawn.true, value, "x")
                self.refuses(BadDrawn("moves"), Drawn.true, 0, value)
            if value is not None and not isinstance(value, Rounding):
                self.refuses(BadDrawn("rounding"), Drawn.edge, 1, value)
                self.refuses(BadDrawn("rounding"), Drawn.size, 0, value)
            if not number(value):
                self.refuses(BadDrawn("number"), Drawn.plain, value)

    def test_worths(self):
        for seed in range(120):
            source = random.Random(seed)
            thing = Drawing(source).thing()
            thing_made = made(thing)
            for zooms, scroll in drawn_views(source):
                found = thing_made(ratio(zooms), ratio(scroll))
                self.assertIsInstance(found, Ratio)
                self.assertEqual(fraction(found), worth(thing, zooms, scroll))
            self.assertEqual(fraction(thing_made(scroll=0, zoom=2)), worth(thing, 2, 0))
            self.assertEqual(thing_made(3), thing_made(Ratio(3), Ratio(0)))
            self.assertEqual((thing_made.weight, thing_made.growth), (weight(thing), growth(thing)))
            self.assertIs(thing_made.has_true, "true" in str(thing_made))
            self.assertIs(thing_made.is_whole, not thing_made.has_true and all(
                "/" not in word or words[at - 1] in ("from", "above")
                for words in [str(thing_made).split()] for at, word in enumerate(words)))
        self.assertEqual((Drawn.edge(1)(2), Drawn.true(1, 1)(2), (Drawn.edge(1) - 1)(2)), (2, 2, 1))

    def test_operators(self):
        for seed in range(60):
            source = random.Random(seed)
            drawing = Drawing(source)
            one, other = drawing.thing(1, False), drawing.thing(1, False)
            first, second = made(one), made(other)
            texts = str(first), str(second)
            for zooms, scroll in drawn_views(source, 5):
                left, right = worth(one, zooms, scroll), worth(other, zooms, scroll)
                view = ratio(zooms), ratio(scroll)
                for found, told in ((first + second, left + right), (first - second, left - right), (-first, -left),
                                    (first | second, max(left, right)), (first & second, min(left, right)),
                                    (first * -3, -3 * left), (4 * first, 4 * left), (first * 0, 0), (2 - first, 2 - left),
                                    (2 + first, 2 + left), (first - Ratio(1, 2), left - Fraction(1, 2)),
                                    (first + Ratio(1, 2), left + Fraction(1, 2)), (3 | first, max(3, left)),
                                    (first & 3, min(3, left)), (Ratio(1, 3) & first, min(Fraction(1, 3), left)),
                                    (Ratio(1, 3) | first, max(Fraction(1, 3), left))):
                    self.assertIs(type(found), Drawn)
                    self.assertEqual(fraction(found(*view)), told)
            self.assertEqual((str(first), str(second)), texts)
            self.assertEqual((first + second, first - first, -(-first)), (second + first, Drawn.plain(0), first))
            self.assertEqual((first | second, first & second), (second | first, second & first))

    def test_wrong_operands(self):
        edge, level = Drawn.edge(1), Drawn.size(1)
        for value in any_values():
            if not beside(value):
                for work in (lambda other: edge + other, lambda other: edge - other, lambda other: edge | other,
                             lambda other: level & other, edge.at_most, edge.below, edge.at_least, edge.above, edge.equals):
                    self.refuses(BadDrawn("other"), work, value)
                if not isinstance(value, (Claim, Rounding)) and type(value).__module__ == "builtins":
                    for work in (lambda other: other + edge, lambda other: other - edge, lambda other: other | edge,
                                 lambda other: other & edge):
                        self.refuses(BadDrawn("other"), work, value)
            if not integer(value):
                self.refuses(BadNumber(value), lambda other: edge * other, value)
                if type(value).__module__ == "builtins":
                    self.refuses(BadNumber(value), lambda other: other * edge, value)

    def test_choices_refused(self):
        edge, true = Drawn.edge(1), Drawn.true(1)
        for work in (lambda one, other: one | other, lambda one, other: one & other):
            self.refuses(BadDrawn("true"), work, edge, true)
            self.refuses(BadDrawn("true"), work, true + edge, 1)
            self.refuses(BadDrawn("true"), work, 1, true)
            self.refuses(BadDrawn("scroll"), work, edge, 1)
            self.refuses(BadDrawn("scroll"), work, Ratio(1, 2), edge)
            self.refuses(BadDrawn("scroll"), work, edge, edge + edge)

    def test_parts_kept(self):
        edge, size = Drawn.edge(1), Drawn.size(2)
        both = edge | Drawn.edge(2)
        for thing, text in (
            (edge + edge, "2 edge 1 from 1/2"), (edge * 3 - edge * 4, "- edge 1 from 1/2"), (both - both, "0"),
            (both + both, "2 ( edge 1 from 1/2 | edge 2 from 1/2 )"), (edge | edge, "edge 1 from 1/2"),
            ((size | 1) | 2, "( 2 | size 2 from 1/2 )"), ((size & 1) & 2, "( 1 & size 2 from 1/2 )"),
            ((size | 1) & 2, "( ( 1 | size 2 from 1/2 ) & 2 )"), (2 * (size | 1) | 2, "( 2 | 2 ( 1 | size 2 from 1/2 ) )"),
            ((size | 1) | (2 + size | 3), "( 2 + size 2 from 1/2 | 3 | size 2 from 1/2 )"),
            (-(size | 1) & -1, "( - ( 1 | size 2 from 1/2 ) & -1 )"), ((size | 1) + 1 | 2, "( 1 + ( 1 | size 2 from 1/2 ) | 2 )"),
            (Drawn.plain(1) | 2, "2"), (1 & Drawn.plain(2), "1"), ((size | 1) & (size | 1), "( 1 | size 2 from 1/2 )"),
            (edge + Drawn.size(1) + Drawn.edge(-1) + Drawn.edge(1, Rounding.all_up()) + 1,
             "1 + edge -1 from 1/2 + edge 1 above 0 + edge 1 from 1/2 + size 1 from 1/2"),
            (Drawn.edge(10) - Drawn.edge(9), "- edge 9 from 1/2 + edge 10 from 1/2"),
            (Drawn.true(1) - Drawn.true(3, 2), "- true 2 and 2"), (Drawn.true(1, 1) - Drawn.true(1), "true 0 and 1"),
            ((size | 1) - (size & 1) * 2 - Drawn.true(1), "- true 1 and 0 - 2 ( 1 & size 2 from 1/2 ) + ( 1 | size 2 from 1/2 )"),
        ):
            self.assertEqual(str(thing), text)
            self.assertEqual(thing, Drawn.read(text))
        self.assertNotEqual(-(size | 1), -size & -1)
        self.assertNotEqual((size | 1) + 1, size + 1 | 2)
        for value in any_values():
            self.assertIs(Drawn.plain(2) == value, isinstance(value, Drawn) and str(value) == "2")

    def test_properties(self):
        up, half = Rounding.all_up(), Rounding.half_up()
        thing = Drawn.size(1) - (Drawn.edge(2) | Drawn.edge(-1, up)) * 2 + Drawn.edge(2, up) + Drawn.true(5, 7) + Drawn.edge(2)
        self.assertEqual(thing.terms, ((-1, True, up), (2, True, up), (2, True, half), (1, False, half)))
        self.assertEqual((thing.weight, thing.growth, thing.has_true, thing.is_whole), (7, 1 - 4 + 2 + 5 + 2, True, False))
        self.assertIs(type(thing.terms), tuple)
        for thing, is_whole in ((Drawn.size(1) | 1, True), (Drawn.size(1) | Ratio(1, 2), False), (Drawn.plain(0), True),
                                (Drawn.size(1) + Ratio(1, 2), False), (Drawn.true(1), False), (Drawn.edge(1, up), True)):
            self.assertIs(thing.is_whole, is_whole)
        self.assertEqual((Drawn.plain(3).terms, Drawn.plain(3).weight, Drawn.plain(3).growth), ((), 0, 0))
        self.assertEqual(((-(Drawn.size(3) & Drawn.size(2))).growth, (Drawn.size(3) & Drawn.size(2)).growth), (-2, 2))

    def test_views_refused(self):
        for called in (Drawn.edge(1), Drawn.size(1).at_most(2), Claim.of(True)):
            for value in any_values():
                if not zoom(value):
                    self.refuses(BadZoom(value), called, value, "x")
                if not number(value):
                    self.refuses(BadScroll(value), called, 1, value)
        self.assertEqual(Drawn.edge(1)(LONG, -LONG), 0)

    def test_most_terms(self):
        self.assertEqual((Drawn.MOST_TERMS, Drawn.MOST_CHOICES), (24, 24))
        sizes = Drawn.plain(0)
        for unit in range(1, 24):
            sizes = sizes + Drawn.size(unit)
        full = sizes + Drawn.size(24)
        self.assertEqual(len(full.terms), 24)
        self.assertEqual(full + Drawn.size(5), full + (Drawn.size(5) | Drawn.size(5)))
        error = TooMany("terms", 24)
        for work in (lambda other: full + other, lambda other: full - other, lambda other: other - full,
                     lambda other: full | other, lambda other: other & full, full.at_most, full.below, full.at_least,
                     full.above, full.equals):
            self.refuses(error, work, Drawn.size(25))
            self.refuses(error, work, Drawn.size(25) | 1)
        self.assertEqual(full - Drawn.size(24), sizes)
        self.refuses(BadDrawn("scroll"), lambda: full | Drawn.edge(1))
        self.refuses(error, full.at_most, Drawn.edge(1))
        self.assertEqual(len((sizes | Drawn.size(24)).terms), 24)

    def test_most_choices(self):
        base = Drawn.size(1)
        total = Drawn.plain(0)
        for amount in range(24):
            total = total + (base | amount)
        error = TooMany("choices", 24)
        for work in (lambda other: total + other, lambda other: other - total, total.at_most, lambda other: total & other):
            self.refuses(error, work, base & 1)
        self.assertEqual(str(total + (base | 3)).count("("), 24)
        self.refuses(error, lambda: total | 1)
        nested = base
        for amount in range(24):
            nested = nested | amount if amount % 2 else nested & amount
        self.assertEqual(str(nested).count("("), 24)
        self.refuses(error, lambda: nested & 30)
        twice = base
        for amount in range(12):
            twice = twice | amount if amount % 2 else twice & amount
        self.assertEqual(str((twice + 1) - twice), "1")
        self.refuses(error, lambda: (twice + 1 & 1) + (twice + 2 & 1))
        many = base
        for amount in range(40):
            many = many | base + Ratio(amount, 41)
        self.assertEqual(len(str(many).split("|")), 40)

    def test_terms_come_first(self):
        sizes = Drawn.plain(0)
        for unit in range(1, 25):
            sizes = sizes + (Drawn.size(unit) | 1)
        self.refuses(TooMany("terms", 24), lambda: sizes + (Drawn.size(25) | 1))
        self.refuses(TooMany("choices", 24), lambda: sizes + (Drawn.size(24) | 2))

    def test_long_numbers(self):
        thing = Drawn.edge(LONG) - Drawn.edge(-LONG, Rounding(Ratio(LONG - 1, LONG)))
        zooms = Ratio(LONG - 2, LONG)
        told = worth(("sum", ((1, ("edge", LONG, (Fraction(1, 2), True))),
                              (-1, ("edge", -LONG, (Fraction(LONG - 1, LONG), True))))), fraction(zooms), Fraction(1, LONG))
        self.assertEqual(thing(zooms, Ratio(1, LONG)), told)


class ClaimTest(Case):
    def test_of(self):
        for value in any_values():
            if not isinstance(value, bool):
                self.refuses(BadClaim("truth"), Claim.of, value)
        self.assertEqual((str(Claim.of(truth=True)), str(Claim.of(False))), ("true", "false"))
        self.assertEqual((Claim.of(True)(1), Claim.of(False)(1, 5), Claim.of(True).atoms), (True, False, ()))

    def test_comparisons(self):
        one, two = Drawn.size(1), Drawn.size(2)
        for claim, text in (
            (two.at_most(one), "- size 1 from 1/2 + size 2 from 1/2 <= 0"), (one.below(Ratio(1, 2)), "-1/2 + size 1 from 1/2 < 0"),
            (one.at_least(other=2), "2 - size 1 from 1/2 <= 0"), (one.above(two), "- size 1 from 1/2 + size 2 from 1/2 < 0"),
            (one.equals(1), "[ -1 + size 1 from 1/2 <= 0 and 1 - size 1 from 1/2 <= 0 ]"), (one.at_most(one), "true"),
            (one.below(one), "false"), (Drawn.plain(1).equals(1), "true"), (one.equals(one + 1), "false"),
            (Drawn.true(1).at_most(3), "-3 + true 1 and 0 <= 0"), (Drawn.true(1).above(3), "3 - true 1 and 0 < 0"),
            (Drawn.plain(0).below(0), "false"), (Drawn.plain(-1).below(0), "true"), (Drawn.plain(3).at_least(4), "false"),
        ):
            self.assertEqual(str(claim), text)
            self.assertEqual(Claim.read(text), claim)
        edge = Drawn.edge(1)
        for work in (edge.at_most, edge.below, edge.at_least, edge.above, edge.equals):
            self.refuses(BadClaim("scroll"), work, 3)
            self.refuses(BadClaim("scroll"), work, Drawn.true(0, 2))

    def test_wrong_operands(self):
        claim = Drawn.size(1).at_most(1)
        for value in any_values():
            if not isinstance(value, Claim):
                for kept in (claim, Claim.of(True), Claim.of(False)):
                    self.refuses(BadClaim("other"), lambda other: kept & other, value)
                    self.refuses(BadClaim("other"), lambda other: kept | other, value)

    def test_joined(self):
        one, two, three = [Drawn.size(1).at_most(number) for number in (1, 2, 3)]
        sure, never = Claim.of(True), Claim.of(False)
        self.assertEqual(((one & sure, sure & one, one & never, never & one), (one | sure, sure | one, one | never)),
                         ((one, one, never, never), (sure, sure, one)))
        self.assertEqual((sure & sure, never | never, sure & never, never | sure), (sure, never, never, sure))
        self.assertEqual((one & one, one | one, (one & two) & one), (one, one, one & two))
        self.assertEqual(((one & two) & three, (one | two) | three), (three & (two & one), one | (three | two)))
        self.assertEqual((~sure, ~never, ~~one, ~(one & two), ~(one | (two & three))),
                         (never, sure, one, ~one | ~two, ~one & (~two | ~three)))
        self.assertNotEqual(one & two, one | two)
        self.assertEqual(str(one & (two | three)), "[ -1 + size 1 from 1/2 <= 0 and [ -2 + size 1 from 1/2 <= 0 or "
                                                   "-3 + size 1 from 1/2 <= 0 ] ]")
        for value in any_values():
            self.assertIs(sure == value, isinstance(value, Claim) and str(value) == "true")

    def test_truths(self):
        for seed in range(80):
            source = random.Random(seed)
            drawing = Drawing(source)
            one, other = drawing.claim(), drawing.claim(1)
            first, second = made_claim(one), made_claim(other)
            texts = str(first), str(second)
            for zooms, scroll in drawn_views(source):
                view = ratio(zooms), ratio(scroll)
                left, right = holds(one, zooms, scroll), holds(other, zooms, scroll)
                self.assertEqual((first(*view), second(zoom=view[0], scroll=view[1])), (left, right))
                self.assertIs((first & second)(*view), left and right)
                self.assertIs((first | second)(*view), left or right)
                self.assertIs((~first)(*view), not left)
            self.assertEqual((str(first), str(second)), texts)

    def test_atoms_and_terms(self):
        one = Drawn.size(2).at_most(1) & (Drawn.edge(3) - Drawn.edge(1)).below(2) | Drawn.size(2).at_most(1) & Drawn.true(1).above(0)
        atoms = one.atoms
        self.assertEqual([f"{drawn} {'<' if is_strict else '<='} 0" for drawn, is_strict in atoms], [
            "- true 1 and 0 < 0", "-1 + size 2 from 1/2 <= 0", "-2 - edge 1 from 1/2 + edge 3 from 1/2 < 0"])
        self.assertTrue(isinstance(atoms, tuple) and all(isinstance(atom, tuple) for atom in atoms))
        half = Rounding.half_up()
        self.assertEqual(one.terms, ((1, True, half), (3, True, half), (2, False, half)))
        both = Drawn.size(1).at_most(0) | Drawn.size(1).below(0)
        self.assertEqual([is_strict for _, is_strict in both.atoms], [True, False])

    def test_deep_claims(self):
        claim = Drawn.size(1).at_most(1)
        for number in range(300):
            claim = claim | Drawn.size(1).equals(number) if number % 2 else claim & Drawn.size(1).at_least(-number)
        self.assertIs(claim(7), True)
        self.assertIs((~claim)(8), True)


if __name__ == "__main__":
    unittest.main()
