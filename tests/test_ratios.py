import math
import random
import unittest
from fractions import Fraction

from allzooms.errors import BadRatio, BadText
from allzooms.ratios import Ratio, is_integer, is_number
from tests.check import LONG, Case, any_values, integer, number


def ratio(fraction):
    return Ratio(fraction.numerator, fraction.denominator)


def fraction(value):
    return Fraction(value.over, value.under) if isinstance(value, Ratio) else Fraction(value)


def drawn_numbers(seed, many=200):
    """Pairs of numbers, Ratios and integers of both signs, small and of 31 figures."""
    source = random.Random(seed)
    ends = (3, 12, LONG)
    pairs = []
    for _ in range(many):
        pair = []
        for _ in range(2):
            end = source.choice(ends)
            over = source.randint(-end, end)
            pair.append(over if source.random() < 0.4 else Ratio(over, source.randint(1, source.choice(ends))))
        pairs.append(pair)
    return pairs


class KindsTest(Case):
    def test_kinds(self):
        for value in any_values():
            self.assertIs(is_integer(value), integer(value))
            self.assertIs(is_number(value), number(value))
        self.assertIs(is_integer(value=True), False)
        self.assertIs(is_number(value=Ratio(1, 2)), True)


class RatioTest(Case):
    def test_lowest_terms(self):
        for over, under, told in ((3, -6, (-1, 2)), (-4, -2, (2, 1)), (0, -9, (0, 1)), (7, 1, (7, 1)), (6, 4, (3, 2))):
            made = Ratio(over, under)
            self.assertEqual((made.over, made.under), told)
        self.assertEqual((Ratio(under=4, over=2).over, Ratio(5).under), (1, 1))
        twice = Ratio(LONG * LONG, LONG * (LONG - 1))
        self.assertEqual((twice.over, twice.under), (LONG, LONG - 1))

    def test_refused(self):
        self.refuses_all(BadRatio, integer, lambda value: Ratio(value, 0))
        self.refuses_all(BadRatio, lambda value: integer(value) and value != 0, lambda value: Ratio(1, value))
        self.refuses(BadRatio(True), Ratio, True, None)
        self.refuses(BadRatio(0), Ratio, 0, 0)

    def test_of(self):
        self.same(Ratio.of(5), "5")
        self.same(Ratio.of(value=Ratio(2, 4)), "1/2")
        self.refuses_all(BadRatio, number, Ratio.of)

    def test_highest_lowest(self):
        half = Ratio(1, 2)
        self.same(Ratio.highest([half, -3, 0]), "1/2")
        self.same(Ratio.lowest((half, -3, 0)), "-3")
        self.same(Ratio.highest(values=[4]), "4")
        for function in (Ratio.highest, Ratio.lowest):
            self.refuses_all(BadRatio, lambda value: isinstance(value, (list, tuple)), function)
            self.refuses(BadRatio("values"), function, [])
            self.refuses(BadRatio("values"), function, ())
            self.refuses(BadRatio(True), function, [1, True, "x"])
            self.refuses(BadRatio("x"), function, (1, "x", True))
        for seed in range(20):
            values = [value for pair in drawn_numbers(seed, 5) for value in pair]
            copy = list(values)
            self.assertEqual(fraction(Ratio.highest(values)), max(map(fraction, values)))
            self.assertEqual(fraction(Ratio.lowest(values)), min(map(fraction, values)))
            self.assertTrue(all(one is other for one, other in zip(copy, values)) and len(copy) == len(values))

    def test_common(self):
        self.same(Ratio.common([Ratio(1, 4), Ratio(1, 6), 0]), "1/12")
        for values, told in (([], "0"), ((), "0"), ([0, Ratio(0)], "0"), ([-6, 4], "2"), ([Ratio(-3, 2)], "3/2")):
            self.same(Ratio.common(values), told)
        self.refuses_all(BadRatio, lambda value: isinstance(value, (list, tuple)), Ratio.common)
        self.refuses(BadRatio(None), Ratio.common, [1, None, True])
        for one, other in drawn_numbers(3):
            shared = fraction(Ratio.common([one, other]))
            if shared == 0:
                self.assertTrue(fraction(one) == fraction(other) == 0)
                continue
            counts = (fraction(one) / shared, fraction(other) / shared)
            self.assertTrue(all(count.denominator == 1 for count in counts) and shared > 0)
            self.assertEqual(math.gcd(*[int(count) for count in counts]), 1)

    def test_signs_on_both_sides(self):
        for one, other in drawn_numbers(1):
            if integer(one) and integer(other):
                one = Ratio(one)
            first, second = fraction(one), fraction(other)
            for found, told in ((one + other, first + second), (one - other, first - second),
                                (one * other, first * second)):
                self.assertIsInstance(found, Ratio)
                self.assertEqual((found.over, found.under), (told.numerator, told.denominator))
            for found, told in ((one < other, first < second), (one <= other, first <= second),
                                (one > other, first > second), (one >= other, first >= second),
                                (one == other, first == second), (one != other, first != second)):
                self.assertIs(found, told)
            if second:
                whole, left = one // other, one % other
                self.assertTrue(integer(whole) and isinstance(left, Ratio))
                self.assertEqual((whole, fraction(left)), (first // second, first - second * (first // second)))
                self.assertEqual(fraction(Ratio.of(one).divided(other)), first / second)

    def test_one_number(self):
        for one, _ in drawn_numbers(2):
            one = Ratio.of(one)
            worth = fraction(one)
            self.same(-one, str(-worth))
            self.assertEqual((one.floor(), one.ceiling()), (worth.__floor__(), worth.__ceil__()))
            self.assertIs(bool(one), worth != 0)
            self.assertEqual(str(one), str(worth))
            self.assertEqual(Ratio.read(str(one)), one)

    def test_wrong_right_side(self):
        half = Ratio(1, 2)
        signs = (
            lambda value: half + value, lambda value: half - value, lambda value: half < value,
            lambda value: half <= value, lambda value: half > value, lambda value: half >= value, half.divided,
            lambda value: half // value, lambda value: half % value,
        )
        for sign in signs:
            self.refuses_all(BadRatio, number, sign)
        for value in any_values():
            if not number(value):
                self.refuses(BadRatio(value), lambda other: half * other, value)
        for sign in signs[-3:]:
            self.refuses(BadRatio(0), sign, 0)
            self.refuses(BadRatio(Ratio(0)), sign, Ratio(0))
        none = Ratio(0)
        self.refuses(BadRatio(none), lambda: 5 // none)
        self.refuses(BadRatio(none), lambda: 5 % none)

    def test_equal(self):
        self.assertTrue(Ratio(2) == 2 and 2 == Ratio(2) and Ratio(1, 2) == Ratio(2, 4))
        for value in any_values():
            self.assertIs(Ratio(1) == value, integer(value) and value == 1)
            self.assertIs(value == Ratio(1, 2), isinstance(value, Ratio) and str(value) == "1/2")
        with self.assertRaises(TypeError):
            {Ratio(1): 1}

    def test_in_place_binds_anew(self):
        one = other = Ratio(1, 2)
        one += 1
        self.assertEqual((str(one), str(other)), ("3/2", "1/2"))

    def test_read(self):
        self.refuses_all(lambda value: BadText(0, 0), lambda value: isinstance(value, str), Ratio.read)
        self.same(Ratio.read(text="-1/2"), "-1/2")
        self.same(Ratio.read(str(LONG) + "/" + str(LONG - 1)), str(LONG) + "/" + str(LONG - 1))
        for text in ("", " ", "05", "+5", "-0", "1/1", "2/4", "1/0", "0/2", "1/-2", "--1", "1/02", "/2", "1/", "a",
                     "1.0", "1_0", "1\n", " 1", "1/2/3", "-", "0x1", "1e3", "9" * 2999 + "a"):
            self.refuses(BadText(0, 0), Ratio.read, text)
        for text in ("1 2", "1/2 ", "0 x", "5  "):
            self.refuses(BadText(0, 1), Ratio.read, text)
        self.assertEqual(Ratio.read("9" * 3000), int("9" * 3000))


if __name__ == "__main__":
    unittest.main()
