"""Something drawn, in integers, and what it is from turn to turn.

The frame of a shape tells how it is seen: at one scroll [grid.py], or at all of them [faces.py].
"""

from allzooms.bends import row_bound, row_sum, zero_changes


class Shape:
    """Something drawn, in integers: all worths are told `scale` times."""

    def __init__(self, drawn, frame, scale):
        self.scale = scale
        self.rise = frame.rise_of(drawn)
        self.amount = exactly(frame.amount_of(drawn), scale)
        self.counts = [(frame.index_of(term), count) for term, count in drawn.term_rows]
        grown = self.rise + sum([frame.unit_of(term) * count for term, count in drawn.term_rows])
        self.slope = grown * (scale // frame.divisor)
        self.choices = []
        for choice, count in drawn.choice_rows:
            shapes = [Shape(member, frame, scale) for member in choice.members]
            self.choices.append((shapes, choice.sign == "|", count))

    def base(self, pixels):
        """What it is in the first turn but for its choices and where its zoom lies."""
        return self.amount + self.scale * sum([pixels[index] * count for index, count in self.counts])


def exactly(number, scale):
    """A Ratio so many times, which is an integer."""
    return number.over * (scale // number.under)


def shape_row(shape, pixels, changes):
    """What a shape is from turn to turn [bends.py], but for where its zoom lies.

    The turns in which other members of a choice than in the turn ahead are its greatest ones (its
    least ones) are put into the dict of changes, if there is one.
    """
    row = [(0, shape.slope, shape.base(pixels))]
    for members, is_greater, count in shape.choices:
        rows = [shape_row(member, pixels, changes) for member in members]
        bound = rows[0]
        for other in rows[1:]:
            bound = row_bound(bound, other, is_greater)
        if changes is not None:
            note_changes(bound, rows, changes)
        row = row_sum(row, bound, count)
    return row


def note_changes(bound, rows, changes):
    """Puts into a dict the turns in which rows begin or end to be their bound."""
    for row in rows:
        for turn in zero_changes(row_sum(bound, row, -1)):
            changes[turn] = True
