"""Marks of a set of zooms that comes round: its normal form, and joining two rows of marks.

A mark is a triple (zoom, whether it is in, whether what is right behind it is in).
"""

from allzooms.ratios import Ratio


def changing(marks, is_first):
    """The marks at which something changes, as a new list."""
    kept = []
    is_in = is_first
    for zoom, is_at, is_behind in marks:
        if is_at != is_in or is_behind != is_in:
            kept.append((zoom, is_at, is_behind))
        is_in = is_behind
    return kept


def state_ahead(marks, at, is_first):
    """Whether the zooms right ahead of the mark at an index are in."""
    return marks[at - 1][2] if at > 0 else is_first


def many_upto(marks, zoom):
    """How many of the marks are at most a zoom."""
    low, high = 0, len(marks)
    while low < high:
        middle = (low + high) // 2
        if marks[middle][0] <= zoom:
            low = middle + 1
        else:
            high = middle
    return low


def least_turn(begin, turn, marks):
    """The least turn of the marks behind begin, which come round with a turn; 1 for no marks."""
    if not marks:
        return Ratio(1)
    steps = []
    ahead = marks[-1][0] - turn
    for zoom, is_at, is_behind in marks:
        steps.append((zoom - ahead, is_at, is_behind))
        ahead = zoom
    for many in range(1, len(steps)):
        if len(steps) % many == 0 and steps[many:] == steps[:-many]:
            return Ratio(turn.over * many, turn.under * len(steps))
    return turn


def least_begin(begin, turn, marks, is_first):
    """The least zoom behind which the marks, told up to begin and turn, come round with the turn.

    It is the last zoom at which the set is otherwise than a turn behind: so it is looked for from
    begin on downwards, mark by mark.
    """
    early = many_upto(marks, begin) - 1
    late = many_upto(marks, begin + turn) - 1
    while True:
        low = marks[early][0] if early >= 0 else Ratio(0)
        high = Ratio.highest([marks[late][0] - turn, 0]) if late >= 0 else Ratio(0)
        if low == 0 and high == 0:
            return Ratio(0)
        if low != high:
            return Ratio.highest([low, high])
        is_alike = marks[early][1] == marks[late][1]
        if not is_alike or state_ahead(marks, early, is_first) != state_ahead(marks, late, is_first):
            return low
        early -= 1
        late -= 1


def normal_form(begin, turn, marks, is_first):
    """The least begin, the least turn, and just the marks that are told with them."""
    kept = changing(marks, is_first)
    new_turn = least_turn(begin, turn, kept[many_upto(kept, begin):])
    new_begin = least_begin(begin, new_turn, kept, is_first)
    return new_begin, new_turn, tuple(kept[:many_upto(kept, new_begin + new_turn)])


def common_multiple(one, other):
    """The least number above 0 that is a whole multiple of two numbers above 0."""
    return one * other.divided(Ratio.common([one, other]))


def joined_truth(one, other, sign):
    """What comes of two truths by a sign between two sets."""
    if sign == "|":
        return one or other
    if sign == "&":
        return one and other
    if sign == "-":
        return one and not other
    return one != other


def marks_joined(rows, others, is_first, is_other_first, sign):
    """The marks of two rows of marks as one row, with what a sign makes of both."""
    joined = []
    is_one, is_other = is_first, is_other_first
    at, beside = 0, 0
    while at < len(rows) or beside < len(others):
        is_row = beside == len(others) or at < len(rows) and rows[at][0] <= others[beside][0]
        zoom = rows[at][0] if is_row else others[beside][0]
        is_one_at, is_other_at = is_one, is_other
        if is_row:
            is_one_at, is_one = rows[at][1], rows[at][2]
            at += 1
        if beside < len(others) and others[beside][0] == zoom:
            is_other_at, is_other = others[beside][1], others[beside][2]
            beside += 1
        joined.append((zoom, joined_truth(is_one_at, is_other_at, sign), joined_truth(is_one, is_other, sign)))
    return joined
