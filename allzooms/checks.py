"""What several files refuse alike."""

from allzooms.errors import BadScroll, BadZoom
from allzooms.ratios import is_number


def is_zoom(value):
    """Whether any value is a number above 0."""
    return is_number(value) and value > 0


def check_view(zoom, scroll):
    """Refuses what is no zoom and no scroll."""
    if not is_zoom(zoom):
        raise BadZoom(zoom)
    if not is_number(scroll):
        raise BadScroll(scroll)
