"""Sets of zooms that come round."""

from allzooms.checks import is_zoom
from allzooms.errors import BadNumber, BadText, BadZoom, BadZooms, TooMany
from allzooms.ratios import Ratio, is_number, told_number
from allzooms.rounds import common_multiple, joined_truth, many_upto, marks_joined, normal_form, state_ahead
from allzooms.words import split_words


def is_place(value):
    """Whether any value is a number from 0 on."""
    return is_number(value) and value >= 0


def is_mark(value):
    """Whether any value is a triple of a zoom and two bools."""
    if not isinstance(value, tuple) or len(value) != 3:
        return False
    return is_zoom(value[0]) and isinstance(value[1], bool) and isinstance(value[2], bool)


def checked_marks(marks, end):
    """A tuple of marks that ascend up to an end."""
    if not isinstance(marks, tuple):
        raise BadZooms("marks")
    last = Ratio(0)
    for mark in marks:
        if not is_mark(mark) or mark[0] <= last or mark[0] > end:
            raise BadZooms("marks")
        last = mark[0]
    return [(Ratio.of(zoom), is_at, is_behind) for zoom, is_at, is_behind in marks]


def in_or_out(is_in):
    """The word for zooms that are in, or out."""
    return "in" if is_in else "out"


def checked_zoom(value):
    """A zoom as a Ratio."""
    if not is_zoom(value):
        raise BadZoom(value)
    return Ratio.of(value)


def nearer(zoom, low, high):
    """Which of the place below a zoom and the one above it is nearer; one of them may be None."""
    if low is None or high is None:
        return high if low is None else low
    down, up = zoom - low[0], high[0] - zoom
    is_high = up < down or up == down and high[1] and not low[1]
    return high if is_high else low


def told_words(zooms):
    """The text of a set."""
    words = [f"{zoom} {in_or_out(is_at)} {in_or_out(is_behind)}" for zoom, is_at, is_behind in zooms.marks]
    return " ".join([in_or_out(zooms.is_first), *words, f"from {zooms.begin} turn {zooms.turn}"])


def told_set(words):
    """The set of zooms that words tell; None if they tell none."""
    if len(words) < 5 or len(words) % 3 != 2 or words[-4] != "from" or words[-2] != "turn":
        return None
    marks = []
    for at in range(1, len(words) - 4, 3):
        marks.append((told_number(words[at]), words[at + 1] == "in", words[at + 2] == "in"))
    try:
        return Zooms(told_number(words[-3]), told_number(words[-1]), tuple(marks), words[0] == "in")
    except BadZooms:
        return None


class Zooms:
    """A set of zooms; above begin one is in exactly if it is with turn added."""

    MOST_MARKS = 3000

    def __init__(self, begin, turn, marks, is_first):
        if not is_place(begin):
            raise BadZooms("begin")
        if not is_zoom(turn):
            raise BadZooms("turn")
        rows = checked_marks(marks, begin + turn)
        if not isinstance(is_first, bool):
            raise BadZooms("first")
        told = many_upto(rows, begin)
        if state_ahead(rows, told, is_first) != state_ahead(rows, len(rows), is_first):
            raise BadZooms("round")
        form = normal_form(Ratio.of(begin), Ratio.of(turn), rows, is_first)
        self.begin = form[0]
        self.turn = form[1]
        self.marks = form[2]
        self.is_first = is_first
        self.once = many_upto(self.marks, self.begin)

    @staticmethod
    def everything():
        """All zooms."""
        return Zooms(0, 1, (), True)

    @staticmethod
    def nothing():
        """No zooms."""
        return Zooms(0, 1, (), False)

    @staticmethod
    def between(low, high, is_low=True, is_high=True):
        """The zooms between two numbers, these perhaps among them."""
        if not is_place(low):
            raise BadZooms("low")
        if not is_place(high):
            raise BadZooms("high")
        if not isinstance(is_low, bool):
            raise BadZooms("is_low")
        if not isinstance(is_high, bool):
            raise BadZooms("is_high")
        if low > high or low == high and not (is_low and is_high and low > 0):
            raise BadZooms("order")
        if low == high:
            return Zooms(high, 1, ((high, True, False),), False)
        begins = ((low, is_low, True),) if low > 0 else ()
        return Zooms(high, 1, (*begins, (high, is_high, False)), not begins)

    @staticmethod
    def beyond(low, is_low=True):
        """The zooms above a number, itself perhaps among them."""
        if not is_place(low):
            raise BadZooms("low")
        if not isinstance(is_low, bool):
            raise BadZooms("is_low")
        return Zooms(low, 1, ((low, is_low, True),) if low > 0 else (), low == 0)

    @staticmethod
    def read(text):
        """The set that has this text."""
        zooms = told_set(split_words(text))
        if zooms is None or str(zooms) != text:
            raise BadText(0, 0)
        return zooms

    def mark(self, index):
        """The mark with an index, counted on from turn to turn; None behind the last one."""
        if index < len(self.marks):
            return self.marks[index]
        round_marks = len(self.marks) - self.once
        if round_marks == 0:
            return None
        turns = (index - self.once) // round_marks
        zoom, is_at, is_behind = self.marks[index - turns * round_marks]
        return zoom + self.turn * turns, is_at, is_behind

    def marks_upto(self, zoom):
        """How many marks are at most a zoom, counted on from turn to turn."""
        if zoom <= self.begin + self.turn:
            return many_upto(self.marks, zoom)
        turns = (Ratio.of(zoom) - self.begin).divided(self.turn).ceiling() - 1
        return many_upto(self.marks, zoom - self.turn * turns) + turns * (len(self.marks) - self.once)

    def state_behind(self, many):
        """Whether the zooms right behind so many marks are in."""
        return self.mark(many - 1)[2] if many > 0 else self.is_first

    def place_from(self, many):
        """The place at which the zooms begin that are in, behind so many marks and what is out there."""
        begins = self.mark(many)
        return None if begins is None else begins[:2]

    def joined(self, other, sign):
        """What a sign makes of this set and another one."""
        if not isinstance(other, Zooms):
            raise BadZooms("other")
        turn = common_multiple(self.turn, other.turn)
        if self.once == len(self.marks):
            turn = other.turn
        elif other.once == len(other.marks):
            turn = self.turn
        begin = Ratio.highest([self.begin, other.begin])
        many, others = self.marks_upto(begin + turn), other.marks_upto(begin + turn)
        if many > Zooms.MOST_MARKS or others > Zooms.MOST_MARKS:
            raise TooMany("marks", Zooms.MOST_MARKS)
        rows = [self.mark(index) for index in range(many)]
        other_rows = [other.mark(index) for index in range(others)]
        both = marks_joined(rows, other_rows, self.is_first, other.is_first, sign)
        if len(both) > Zooms.MOST_MARKS:
            raise TooMany("marks", Zooms.MOST_MARKS)
        return Zooms(begin, turn, tuple(both), joined_truth(self.is_first, other.is_first, sign))

    def __or__(self, other):
        return self.joined(other, "|")

    def __and__(self, other):
        return self.joined(other, "&")

    def __sub__(self, other):
        return self.joined(other, "-")

    def __xor__(self, other):
        return self.joined(other, "^")

    def __invert__(self):
        marks = [(zoom, not is_at, not is_behind) for zoom, is_at, is_behind in self.marks]
        return Zooms(self.begin, self.turn, tuple(marks), not self.is_first)

    def __contains__(self, x):
        if not is_zoom(x):
            return False
        many = self.marks_upto(x)
        if many > 0 and self.mark(many - 1)[0] == x:
            return self.mark(many - 1)[1]
        return self.state_behind(many)

    def __bool__(self):
        return bool(self.is_first) or bool(self.marks)

    def __eq__(self, other):
        if not isinstance(other, Zooms) or self.is_first != other.is_first:
            return False
        return self.begin == other.begin and self.turn == other.turn and self.marks == other.marks

    def __le__(self, other):
        return not bool(self.joined(other, "-"))

    def __lt__(self, other):
        return self <= other and not self == other

    def __ge__(self, other):
        if not isinstance(other, Zooms):
            raise BadZooms("other")
        return other <= self

    def __gt__(self, other):
        return self >= other and not self == other

    def __iter__(self):
        return iter(self.marks)

    def __str__(self):
        return str(told_words(self))

    @property
    def first(self):
        """The place at which the set begins, None for no zooms."""
        return (Ratio(0), False) if self.is_first else self.place_from(0)

    @property
    def holds_from(self):
        """The place from which on all zooms are in, None if there is none."""
        if self.once < len(self.marks) or not self.state_behind(self.once):
            return None
        return self.marks[-1][:2] if self.marks else (Ratio(0), False)

    @property
    def share(self):
        """How much of one turn behind begin is in, by length."""
        total = Ratio(0)
        place = self.begin
        is_in = self.state_behind(self.once)
        for zoom, _, is_behind in self.marks[self.once:]:
            total = total + (zoom - place if is_in else 0)
            place = zoom
            is_in = is_behind
        total = total + (self.begin + self.turn - place if is_in else 0)
        return total.divided(self.turn)

    def next(self, zoom):
        """The place at which the zooms above this one begin, None if there are none."""
        place = checked_zoom(zoom)
        many = self.marks_upto(place)
        return (place, False) if self.state_behind(many) else self.place_from(many)

    def nearest(self, zoom):
        """The zooms nearest to this one: (place, whether it is in), None for no zooms."""
        place = checked_zoom(zoom)
        if place in self:
            return place, True
        many = self.marks_upto(place)
        # The last mark ends the stretch below; if it is this zoom itself, nothing can be nearer.
        low = self.mark(many - 1)[:2] if many > 0 else None
        return nearer(place, low, self.place_from(many))

    def stretches(self, upto):
        """The stretches of the set up to a zoom: (low, is_low, high, is_high)."""
        end = checked_zoom(upto)
        low = (Ratio(0), False) if self.is_first else None
        index = 0
        mark = self.mark(0)
        while mark is not None and mark[0] <= end:
            if low is not None:
                yield low[0], low[1], mark[0], mark[1]
            elif mark[1] and not mark[2]:
                yield mark[0], True, mark[0], True
            if mark[2]:
                low = (mark[0], mark[1] and low is None)
            else:
                low = None
            index += 1
            mark = self.mark(index)
        if low is not None and (low[0] < end or low[1]):
            yield low[0], low[1], end, True

    def scaled(self, number):
        """All zooms times a number above 0."""
        if not is_zoom(number):
            raise BadNumber(number)
        marks = [(zoom * number, is_at, is_behind) for zoom, is_at, is_behind in self.marks]
        return Zooms(self.begin * number, self.turn * number, tuple(marks), self.is_first)
