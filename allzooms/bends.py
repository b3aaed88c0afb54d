"""Rows of integers over the turns n = 0, 1, 2, .., straight but for finitely many bends.

A row is a list of pieces (start, slope, base): from the turn start on, up to the next start, its
value is slope n + base. Nothing here goes through the turns one by one.
"""


def overlaps(row, other):
    """Pairs of pieces of two rows: (begin, end, slope, base, other slope, other base); end is None at last."""
    found = []
    at, beside, begin = 0, 0, 0
    while begin is not None:
        ends = [next_start(row, at), next_start(other, beside)]
        end = min([int(start) for start in ends if start is not None], default=None)
        found.append((begin, end, row[at][1], row[at][2], other[beside][1], other[beside][2]))
        if ends[0] is not None and ends[0] == end:
            at += 1
        if ends[1] is not None and ends[1] == end:
            beside += 1
        begin = end
    return found


def next_start(row, at):
    """The turn at which the piece behind the one at an index begins, None behind the last one."""
    return row[at + 1][0] if at + 1 < len(row) else None


def straightened(pieces):
    """Pieces without those that go on as the one ahead of them."""
    kept = []
    for start, slope, base in pieces:
        if not kept or kept[-1][1] != slope or kept[-1][2] != base:
            kept.append((start, slope, base))
    return kept


def row_sum(row, other, times):
    """A row and another one so many times."""
    return straightened([
        (begin, slope + other_slope * times, base + other_base * times)
        for begin, end, slope, base, other_slope, other_base in overlaps(row, other)
    ])


def at_most_zero(slope, base, begin, end):
    """Where slope n + base is at most 0, from begin to ahead of end: one or two pairs (start, whether)."""
    if slope == 0:
        return [(begin, base <= 0)]
    # The first turn at which it is otherwise than far below.
    change = -base // slope + 1 if slope > 0 else -(-base // -slope)
    is_early = slope > 0
    if change <= begin:
        return [(begin, not is_early)]
    if end is not None and change >= end:
        return [(begin, is_early)]
    return [(begin, is_early), (change, not is_early)]


def row_bound(row, other, is_greater):
    """The greater one, or the lesser one, of two rows."""
    pieces = []
    for begin, end, slope, base, other_slope, other_base in overlaps(row, other):
        fall = slope - other_slope if is_greater else other_slope - slope
        less = base - other_base if is_greater else other_base - base
        for start, is_other in at_most_zero(fall, less, begin, end):
            pieces.append((start, other_slope, other_base) if is_other else (start, slope, base))
    return straightened(pieces)


def piece_ends(row):
    """The pieces of a row with their ends: (begin, end, slope, base); the last end is None."""
    ends = [start for start, _, _ in row[1:]] + [None]
    return [(piece[0], end, piece[1], piece[2]) for piece, end in zip(row, ends)]


def truth_story(row, more):
    """When a row and so much more is at most 0: pairs (turn, whether), from this turn on."""
    return merged([pair for begin, end, slope, base in piece_ends(row)
                   for pair in at_most_zero(slope, base + more, begin, end)])


def merged(pairs):
    """The tuple of pairs (turn, value) without those that go on as the one ahead of them."""
    kept = []
    for turn, value in pairs:
        if not kept or kept[-1][1] != value:
            kept.append((turn, value))
    return tuple(kept)


def zero_turn(begin, end, slope, base):
    """The one turn of a piece in which it is 0, None if there is none or all are."""
    if slope == 0 or base % slope != 0:
        return None
    turn = -base // slope
    return turn if turn >= begin and (end is None or turn < end) else None


def zero_changes(row):
    """The turns, from 1 on, in which a row is 0 and was not in the turn ahead, or the other way round."""
    pairs = []
    for begin, end, slope, base in piece_ends(row):
        turn = zero_turn(begin, end, slope, base)
        if turn is None or turn > begin:
            pairs.append((begin, slope == 0 and base == 0))
        if turn is not None:
            pairs.append((turn, True))
            if end is None or turn + 1 < end:
                pairs.append((turn + 1, False))
    return [turn for turn, _ in merged(pairs)[1:]]


def value_at(pairs, turn):
    """What pairs (turn, value) tell of a turn."""
    return [value for start, value in pairs if start <= turn][-1]
