import random
import unittest
from fractions import Fraction

from allzooms.errors import BadNumber, BadRounding, BadText
from allzooms.ratios import Ratio
from allzooms.roundings import Rounding
from tests.check import LONG, Case, any_values, integer, number
from tests.reckon import rounded

EDGE = Fraction(1, LONG)


def all_roundings():
    """Pairs (Rounding, (threshold, is_from)): thresholds 0 and 1, and others between, of both kinds."""
    found = []
    for threshold in (Fraction(0), Fraction(1), Fraction(1, 2), Fraction(1, 3), Fraction(LONG - 2, LONG), EDGE):
        for is_from in (True, False):
            if threshold != (0 if is_from else 1):
                told = Ratio(threshold.numerator, threshold.denominator)
                found.append((Rounding(told, is_from), (threshold, is_from)))
    return found


def places_near(threshold):
    """Numbers at a threshold, just beside it, at pixels and anywhere, of both signs."""
    source = random.Random(5)
    places = [Fraction(source.randint(-50, 50), source.randint(1, 9)) for _ in range(10)]
    for pixel in (-LONG // 2, -3, -1, 0, 1, 2, LONG // 2):
        for at in (threshold, threshold - EDGE / 3, threshold + EDGE / 3, Fraction(0)):
            places.append(pixel + at)
    return places


class RoundingTest(Case):
    def test_pixels(self):
        for rounding, told in all_roundings():
            for place in places_near(told[0]):
                at = Ratio(place.numerator, place.denominator)
                near = EDGE / LONG
                self.assertEqual(rounding(at), rounded(told, place))
                self.assertEqual(rounding.before(at), rounded(told, place - near))
                self.assertEqual(rounding.behind(at), rounded(told, place + near))
                self.assertIs(rounding.is_step(at), rounded(told, place - near) != rounded(told, place + near))
                self.assertEqual((~rounding)(at), -rounding(-at))
                self.assertEqual(rounding(at + 7), rounding(at) + 7)
                if at.under == 1:
                    self.assertEqual(rounding(at.over), rounding(at))
                self.assertTrue(all(integer(value) for value in (rounding(at), rounding.before(at), rounding.behind(at))))

    def test_places(self):
        for rounding, told in all_roundings():
            for pixel in (-LONG, -1, 0, 3, LONG):
                low, is_low, high, is_high = rounding.places(pixel)
                self.assertTrue(isinstance(low, Ratio) and isinstance(high, Ratio))
                self.assertEqual((rounding(low) == pixel, rounding(high) == pixel), (is_low, is_high))
                self.assertEqual((rounding.behind(low), rounding.before(high)), (pixel, pixel))
                self.assertTrue(isinstance(is_low, bool) and isinstance(is_high, bool))
        self.assertIsInstance(Rounding.half_up().places(1), tuple)

    def test_refused(self):
        def fits(value):
            return number(value) and 0 <= value <= 1

        for value in any_values():
            if not fits(value):
                self.refuses(BadRounding("threshold"), Rounding, value, None)
            if not isinstance(value, bool):
                self.refuses(BadRounding("kind"), Rounding, 0, value)
                self.refuses(BadRounding("kind"), Rounding, 1, value)
        self.refuses(BadRounding("threshold"), Rounding, 0)
        self.refuses(BadRounding("threshold"), Rounding, Ratio(0), True)
        self.refuses(BadRounding("threshold"), Rounding, 1, False)
        for value in (Ratio(-1, LONG), Ratio(LONG, LONG - 1)):
            self.refuses(BadRounding("threshold"), Rounding, value, True)

    def test_wrong_numbers(self):
        half = Rounding.half_up()
        for function in (half, half.before, half.behind, half.is_step):
            self.refuses_all(BadNumber, number, function)
        self.refuses_all(BadNumber, integer, half.places)

    def test_attributes(self):
        made = Rounding(is_from=False, threshold=0)
        self.same(made.threshold, "0")
        self.assertIs(made.is_from, False)
        for made, told in ((Rounding.all_down(), "from 1"), (Rounding.all_up(), "above 0"),
                           (Rounding.half_up(), "from 1/2"), (Rounding.half_down(), "above 1/2")):
            self.assertEqual(str(made), told)

    def test_equal_and_mirrored(self):
        for rounding, told in all_roundings():
            self.assertEqual(~~rounding, rounding)
            self.assertEqual(Rounding(rounding.threshold, rounding.is_from), rounding)
            for other, beside in all_roundings():
                self.assertIs(rounding == other, told == beside)
        for value in any_values():
            self.assertIs(Rounding.half_up() == value, isinstance(value, Rounding))

    def test_by_name(self):
        half = Rounding.half_up()
        self.assertEqual((half(number=1), half.before(number=1), half.behind(number=1)), (1, 1, 1))
        self.assertEqual((half.is_step(number=1), str(half.places(pixel=1)[0])), (False, "1/2"))

    def test_read(self):
        for rounding, _ in all_roundings():
            text = str(rounding)
            self.assertEqual(Rounding.read(text=text), rounding)
            self.refuses(BadText(0, 2), Rounding.read, text + " x")
            self.refuses(BadText(0, 1), Rounding.read, text.split()[0])
        self.refuses_all(lambda value: BadText(0, 0), lambda value: value == "from 1/2", Rounding.read)
        for text, word in (("from 0", 1), ("above 1", 1), ("from 2", 1), ("above -1/2", 1), ("from", 1), ("1/2 from", 0),
                           ("from from", 1), ("from 2/4", 1), ("from  1/2", 1), (" from 1/2", 0), ("from 1/2 ", 2),
                           ("From 1/2", 0), ("from 1/2 1/2", 2), ("above x y", 1)):
            self.refuses(BadText(0, word), Rounding.read, text)


if __name__ == "__main__":
    unittest.main()
