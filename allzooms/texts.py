"""The texts of screens."""

from allzooms.drawn import Claim
from allzooms.errors import BadScreen
from allzooms.screens import Screen


def screen_text(screen):
    """The text of a screen, in rows."""
    if not isinstance(screen, Screen):
        raise BadScreen("screen")
    rules = screen.state.rules
    if not all([isinstance(rules[name], Claim) for name in rules]):
        raise BadScreen("guards")
    rows = [
        f"page {screen.page_now}",
        f"style {screen.style_now}",
        f"zoom {screen.zoom_now}",
        f"scroll {screen.scroll_now}",
    ]
    return "\n".join(rows + [f"guard {name} {rules[name]}" for name in screen.guards])
