"""Whether a paper tells the tightest number rightly."""

from allzooms.choices import Tight, check_bounds, made_claim
from allzooms.look_views import shows_judge
from allzooms.ratios import is_integer
from allzooms.views import Always, Broken


def shows_tight(make, low, high, value):
    """Whether any value is a Tight of a number from low to high whose claim holds, and that below it does not."""
    check_bounds(low, high)
    if not isinstance(value, Tight) or not is_integer(value.number) or not low <= value.number <= high:
        return False
    # What make returns is refused whatever the papers are.
    claim = made_claim(make, value.number)
    if value.number == low:
        return is_always(claim, value.always) and value.broken is None
    below = made_claim(make, value.number - 1)
    return is_always(claim, value.always) and is_broken(below, value.broken)


def is_always(claim, value):
    """Whether any value is a right Always of a claim."""
    return shows_judge(claim, value) and isinstance(value, Always)


def is_broken(claim, value):
    """Whether any value is a right Broken of a claim."""
    return shows_judge(claim, value) and isinstance(value, Broken)
