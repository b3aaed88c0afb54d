"""Whether a paper tells the greatest worth or the least worth of something drawn rightly."""

from allzooms.look_views import shows_judge
from allzooms.most import Endless, Most, check_level, limits
from allzooms.ratios import Ratio, is_integer, is_number
from allzooms.views import Always


def shows_greatest(drawn, value):
    """Whether any value tells the greatest worth rightly."""
    check_level(drawn)
    if isinstance(value, Endless):
        return is_integer(value.gain) and value.gain == drawn.growth and value.gain > 0
    if not is_placed(drawn, value):
        return False
    claim = drawn.at_most(value.number) if value.is_reached else drawn.below(value.number)
    return shows_judge(claim, Always(value.marks, value.turns))


def shows_least(drawn, value):
    """Whether any value tells the least worth rightly."""
    check_level(drawn)
    if isinstance(value, Endless):
        return is_integer(value.gain) and value.gain == drawn.growth and value.gain < 0
    if not is_placed(drawn, value):
        return False
    claim = drawn.at_least(value.number) if value.is_reached else drawn.above(value.number)
    return shows_judge(claim, Always(value.marks, value.turns))


def is_placed(drawn, value):
    """Whether any value is a Most whose number is drawn at its view, or is a limit at its point."""
    if not isinstance(value, Most) or not isinstance(value.number, Ratio) or not isinstance(value.is_reached, bool):
        return False
    if not is_number(value.zoom) or not is_number(value.scroll) or value.zoom < 0:
        return False
    if not value.is_reached:
        return value.number in limits(drawn, value.zoom, value.scroll)
    if value.zoom == 0:
        return False
    return drawn.worth(Ratio.of(value.zoom), Ratio.of(value.scroll)) == value.number
