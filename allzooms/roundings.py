"""Roundings: which pixel a number is drawn at."""

from allzooms.errors import BadNumber, BadRounding, BadText
from allzooms.ratios import Ratio, is_integer, is_number, told_number
from allzooms.words import split_words


def told_rounding(kind, word):
    """The rounding of two words; None if the second one cannot stand behind the first one."""
    threshold = told_number(word)
    if threshold is None or threshold < 0 or threshold > 1:
        return None
    is_from = kind == "from"
    if threshold == (0 if is_from else 1):
        return None
    return Rounding(threshold, is_from)


def fraction_of(number):
    """A number as a Ratio."""
    if not is_number(number):
        raise BadNumber(number)
    return Ratio.of(number)


class Rounding:
    """A rounding that goes to the next pixel from a threshold on, or above it."""

    def __init__(self, threshold, is_from=True):
        if not is_number(threshold) or threshold < 0 or threshold > 1:
            raise BadRounding("threshold")
        if not isinstance(is_from, bool):
            raise BadRounding("kind")
        if threshold == (0 if is_from else 1):
            raise BadRounding("threshold")
        self.threshold = Ratio.of(threshold)
        self.is_from = is_from

    @staticmethod
    def all_down():
        """To the next pixel from 1 on: never."""
        return Rounding(1)

    @staticmethod
    def all_up():
        """To the next pixel for whatever is above a pixel."""
        return Rounding(0, False)

    @staticmethod
    def half_up():
        """To the next pixel from the half on."""
        return Rounding(Ratio(1, 2))

    @staticmethod
    def half_down():
        """To the next pixel above the half."""
        return Rounding(Ratio(1, 2), False)

    @classmethod
    def read(cls, text):
        """The rounding that has this text."""
        words = split_words(text)
        if words[0] != "from" and words[0] != "above":
            raise BadText(0, 0)
        rounding = told_rounding(words[0], words[1]) if len(words) > 1 else None
        if rounding is None:
            raise BadText(0, 1)
        if len(words) > 2:
            raise BadText(0, 2)
        return rounding

    def drawn_at(self, number):
        """The pixel of a Ratio."""
        place = number - self.threshold
        return place.floor() + 1 if self.is_from else place.ceiling()

    def __call__(self, number):
        return self.drawn_at(fraction_of(number))

    def before(self, number):
        """The pixel of all numbers just below this one."""
        return (fraction_of(number) - self.threshold).ceiling()

    def behind(self, number):
        """The pixel of all numbers just above this one."""
        return (fraction_of(number) - self.threshold).floor() + 1

    def is_step(self, number):
        """Whether the pixel changes at this number."""
        return (fraction_of(number) - self.threshold).under == 1

    def places(self, pixel):
        """The numbers of a pixel: (low, is_low, high, is_high)."""
        if not is_integer(pixel):
            raise BadNumber(pixel)
        high = self.threshold + pixel
        return high - 1, self.is_from, high, not self.is_from

    def __invert__(self):
        return Rounding(1 - self.threshold, not self.is_from)

    def __eq__(self, other):
        if not isinstance(other, Rounding):
            return False
        return self.threshold == other.threshold and self.is_from == other.is_from

    def __str__(self):
        if self.is_from:
            return f"from {self.threshold}"
        return f"above {self.threshold}"
