"""Rows of equal boxes, reckoned by the tests themselves: a search through all numbers at which something steps."""

from fractions import Fraction

from tests.reckon import rounded


def with_between(places, low, high):
    """Ascending places from low to high, both too, and one place between each two neighbours."""
    ends = sorted({place for place in places if low <= place <= high} | {low, high})
    return sorted(ends + [(one + other) / 2 for one, other in zip(ends, ends[1:])])


def widths(threshold, n):
    """All widths of a box of up to one pixel at which something is otherwise than at those near to them."""
    steps = [threshold, Fraction(1)] + [(threshold + whole) / n for whole in range(-1, n + 1) if n]
    return [width for width in with_between(steps, Fraction(0), Fraction(1)) if width > 0]


def plain_row_range(rounding, n):
    """The least and the greatest number of n R(x) - R(n x)."""
    found = [n * rounded(rounding, width) - rounded(rounding, n * width) for width in widths(rounding[0], n)]
    return min(found), max(found)


def plain_moved_range(rounding, n):
    """The least and the greatest number of R(s) + n R(x) - R(n x + s)."""
    threshold = rounding[0]
    steps = [threshold, Fraction(1)] + [Fraction(whole, n) for whole in range(n + 1) if n]
    found = set()
    for width in with_between(steps, Fraction(0), Fraction(1)):
        if width > 0:
            for scroll in with_between([threshold, (threshold - n * width) % 1], Fraction(0), Fraction(1)):
                found.add(rounded(rounding, scroll) + n * rounded(rounding, width) - rounded(rounding, n * width + scroll))
    return min(found), max(found)
