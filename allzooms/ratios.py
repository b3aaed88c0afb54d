"""Numbers: integers, and fractions of them in lowest terms."""

from math import gcd

from allzooms.errors import BadRatio, BadText
from allzooms.words import split_words, whole_number


def is_integer(value):
    """Whether any value is an int that is no bool."""
    return isinstance(value, int) and not isinstance(value, bool)


def is_number(value):
    """Whether any value is an integer or a Ratio."""
    return is_integer(value) or isinstance(value, Ratio)


def told_number(word):
    """The Ratio that a word tells just as `str` writes it; None for another word."""
    over, stroke, under = word.partition("/")
    above, below = whole_number(over), whole_number(under)
    if above is None:
        return None
    if not stroke:
        return Ratio(above)
    if below is None or below < 2 or gcd(above, below) > 1:
        return None
    return Ratio(above, below)


def all_numbers(values):
    """The items of a list or tuple, as Ratios."""
    if not isinstance(values, (list, tuple)):
        raise BadRatio(values)
    return [Ratio.of(value) for value in values]


def bound_of(values, is_greatest):
    """The greatest one, or the least one, of some numbers."""
    numbers = all_numbers(values)
    if not numbers:
        raise BadRatio("values")
    bound = numbers[0]
    for number in numbers[1:]:
        if number > bound if is_greatest else number < bound:
            bound = number
    return bound


class Ratio:
    """The fraction over / under, in lowest terms, the lower part above 0."""

    def __init__(self, over, under=1):
        if not is_integer(over):
            raise BadRatio(over)
        if not is_integer(under) or under == 0:
            raise BadRatio(under)
        shared = gcd(over, under)
        if under < 0:
            shared = -shared
        self.over = over // shared
        self.under = under // shared

    @staticmethod
    def of(value):
        """The fraction that any value is."""
        if isinstance(value, Ratio):
            return value
        if not is_integer(value):
            raise BadRatio(value)
        return Ratio(value)

    @staticmethod
    def highest(values):
        """The greatest one of some numbers."""
        return bound_of(values, True)

    @staticmethod
    def lowest(values):
        """The least one of some numbers."""
        return bound_of(values, False)

    @staticmethod
    def common(values):
        """The greatest number of which all numbers are whole multiples; 0 if there is none."""
        shared = Ratio(0)
        for number in all_numbers(values):
            over = gcd(shared.over * number.under, number.over * shared.under)
            shared = Ratio(over, shared.under * number.under)
        return shared

    @classmethod
    def read(cls, text):
        """The fraction that has this text."""
        words = split_words(text)
        number = told_number(words[0])
        if number is None:
            raise BadText(0, 0)
        if len(words) > 1:
            raise BadText(0, 1)
        return number

    def __add__(self, other):
        added = Ratio.of(other)
        return Ratio(self.over * added.under + added.over * self.under, self.under * added.under)

    def __radd__(self, other):
        return self + other

    def __sub__(self, other):
        taken = Ratio.of(other)
        return Ratio(self.over * taken.under - taken.over * self.under, self.under * taken.under)

    def __rsub__(self, other):
        return Ratio.of(other) - self

    def __mul__(self, other):
        factor = Ratio.of(other)
        return Ratio(self.over * factor.over, self.under * factor.under)

    def __rmul__(self, other):
        return self * other

    def __neg__(self):
        return Ratio(-self.over, self.under)

    def divided(self, other):
        """This fraction divided by a number other than 0."""
        divisor = Ratio.of(other)
        if divisor.over == 0:
            raise BadRatio(other)
        return Ratio(self.over * divisor.under, self.under * divisor.over)

    def __floordiv__(self, other):
        return self.divided(other).floor()

    def __rfloordiv__(self, other):
        return Ratio.of(other) // self

    def __mod__(self, other):
        return self - Ratio.of(other) * (self // other)

    def __rmod__(self, other):
        return Ratio.of(other) - self * (Ratio.of(other) // self)

    def __lt__(self, other):
        against = Ratio.of(other)
        return self.over * against.under < against.over * self.under

    def __le__(self, other):
        against = Ratio.of(other)
        return self.over * against.under <= against.over * self.under

    def __gt__(self, other):
        against = Ratio.of(other)
        return self.over * against.under > against.over * self.under

    def __ge__(self, other):
        against = Ratio.of(other)
        return self.over * against.under >= against.over * self.under

    def __eq__(self, other):
        if isinstance(other, Ratio):
            return self.over == other.over and self.under == other.under
        return is_integer(other) and self.under == 1 and self.over == other

    def __bool__(self):
        return bool(self.over)

    def __str__(self):
        if self.under == 1:
            return str(self.over)
        return f"{self.over}/{self.under}"

    def floor(self):
        """The greatest integer that is not above this fraction."""
        return self.over // self.under

    def ceiling(self):
        """The least integer that is not below this fraction."""
        return -(-self.over // self.under)
