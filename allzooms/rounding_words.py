"""The words of a rounding among other words."""

from allzooms.roundings import told_rounding


def take_rounding(reader):
    """Goes on behind a rounding that must stand here, and returns it; the reader is a Words."""
    kind = reader.ahead()
    if kind != "from" and kind != "above":
        reader.refuse()
    reader.take(kind)
    rounding = told_rounding(kind, reader.ahead())
    if rounding is None:
        reader.refuse()
    reader.take(reader.ahead())
    return rounding
