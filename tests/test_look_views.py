import random
import unittest

from allzooms.drawn import Claim, Drawn
from allzooms.errors import BadClaim, TooMany
from allzooms.look_views import shows_judge
from allzooms.ratios import Ratio
from allzooms.roundings import Rounding
from allzooms.views import Always, Broken, cuts, judge, turn_of
from tests.check import LONG, Case, any_values
from tests.plain_claims import FAR, drawn_claim
from tests.plain_papers import always_is_right
from tests.reckon import made_claim

DOWN = Rounding.all_down()


def marks_of(claim):
    """All marks that a right Always needs."""
    return tuple(sorted({str(mark): mark for mark in (Ratio(0), *cuts(claim), turn_of(claim))}.values(), key=Order))


class Order:
    """A key by which Ratios are sorted."""

    def __init__(self, number):
        self.number = number

    def __lt__(self, other):
        return self.number < other.number


def more_marks(source, marks):
    """Marks, and some more of them between."""
    found = []
    for low, high in zip(marks, marks[1:]):
        found.append(low)
        if source.random() < 0.4:
            found.append(low + (high - low) * Ratio(1, source.randint(2, 5)))
    return (*found, marks[-1])


def without(source, row):
    at = source.randrange(len(row))
    return row[:at] + row[at + 1:]


def doubled(source, row):
    at = source.randrange(len(row))
    return row[:at + 1] + row[at:]


def swapped(source, row):
    at = source.randrange(len(row))
    return row[at:] + row[:at]


def exchanged(source, row):
    at = source.randrange(len(row))
    return row[:at] + (row[at] + source.choice((1, -1, 2)),) + row[at + 1:]


def near_papers(source, marks, turns):
    """Papers near to one: with a part changed, left out, doubled, out of order, or with more than needed."""
    more = tuple(sorted({*turns, *[turn + source.randint(0, 3) for turn in turns], turns[-1] + source.randint(1, 9)}))
    last = turns[-1] + 1
    return [
        (more_marks(source, marks), turns), (marks, more), (more_marks(source, marks), more), (without(source, marks), turns),
        (marks, without(source, turns)), (doubled(source, marks), turns), (marks, doubled(source, turns)),
        (swapped(source, marks), turns), (marks, swapped(source, turns)), (exchanged(source, marks), turns),
        (marks, exchanged(source, turns)), (marks, turns[:-1] + (last,)), (marks, (0,)), (marks, tuple(range(4))),
        (marks, (0, source.randint(1, 8))), (marks, (*turns, turns[-1] + FAR)),
    ]


class LookViewsTest(Case):
    def test_wrong_arguments(self):
        for value in any_values():
            if not isinstance(value, Claim):
                for paper in (None, Broken(Ratio(1), Ratio(0)), Always((Ratio(0), Ratio(1)), (0,))):
                    self.refuses(BadClaim("claim"), shows_judge, value, paper)
        plain, true = Drawn.size(1).at_least(0), Drawn.true(1).at_least(0)
        for value in any_values():
            self.refuses(BadClaim("true"), shows_judge, plain | ~true, value)
            self.assertIs(shows_judge(claim=plain, value=value), value == Always((0, 1), (0,)) and len(value.marks) == 3)
        crowded = (Drawn.size(2001) - Drawn.size(2)).at_most(0)
        for value in any_values():
            if isinstance(value, Broken):
                self.assertIs(shows_judge(crowded, value), value == Broken(1, 0))
            else:
                self.refuses(TooMany("cuts", 1000), shows_judge, crowded, value)
        self.refuses(BadClaim("true"), shows_judge, crowded | true, None)

    def test_broken(self):
        claim = (Drawn.edge(3) - Drawn.edge(1)).equals(Drawn.size(2))
        for zoom, scroll, is_right in (
            (Ratio(1, 8), Ratio(1, 4), True), (Ratio(1, 4), Ratio(0), False), (Ratio(1, 2), Ratio(1, 3), False), (Ratio(1), Ratio(1), False),
            (Ratio(0), Ratio(1, 4), False), (Ratio(-1, 8), Ratio(1, 4), False), (Ratio(1, 8) + FAR, Ratio(1, 4) + LONG, True),
            (Ratio(1, 8), 0, False), (3, Ratio(1, 4), False), (True, Ratio(1, 4), False), ("1/8", Ratio(1, 4), False),
            (Ratio(1, 8), None, False), (None, Ratio(1, 4), False), ((Ratio(1, 8),), Ratio(1, 4), False),
        ):
            self.assertIs(shows_judge(claim, Broken(zoom, scroll)), is_right)
        one = Drawn.size(1).at_most(3)
        self.assertIs(shows_judge(one, Broken(4, 0)), False)
        self.assertIs(shows_judge(one, Broken(Ratio(4), Ratio(0))), True)
        self.assertIs(shows_judge(Claim.of(False), Broken(Ratio(4), Ratio(0))), True)
        self.assertIs(shows_judge(Claim.of(True), Broken(Ratio(4), Ratio(0))), False)
        for zoom in (Ratio(0), Ratio(-1), Ratio(-LONG, 7)):
            self.assertIs(shows_judge(Claim.of(False), Broken(zoom, Ratio(0))), False)
        for value in any_values():
            self.assertIs(shows_judge(one, Broken(value, Ratio(0))), isinstance(value, Ratio) and value > Ratio(7, 2))
            self.assertIs(shows_judge(one, Broken(Ratio(9), value)), isinstance(value, Ratio))
        true = (Drawn.size(1) - Drawn.true(1)).at_most(Ratio(1, 3))
        self.assertIs(shows_judge(true, Broken(Ratio(1, 2), Ratio(0))), True)
        self.assertIs(shows_judge(true, Broken(Ratio(2, 3), Ratio(0))), False)

    def test_papers_near_to_right_ones(self):
        kinds = {}
        for seed in range(90):
            source = random.Random(seed)
            claim = made_claim(drawn_claim(source))
            found = judge(claim)
            text = str(claim)
            marks, turns = (found.marks, found.turns) if found else (marks_of(claim), (0, 1, 2, 3))
            if len(turns) * len(marks) > 60:
                continue
            papers = [(marks, turns), *near_papers(source, marks, turns)]
            for paper in source.sample(papers, 9):
                value = Always(*paper)
                is_right = always_is_right(claim, *paper)
                self.assertIs(shows_judge(claim, value), is_right, (seed, text, [str(mark) for mark in paper[0]], paper[1]))
                self.assertEqual((value.marks, value.turns), paper)
                self.assertTrue(found or not is_right)
                kinds[(bool(found), is_right)] = kinds.get((bool(found), is_right), 0) + 1
            self.assertEqual(str(claim), text)
        self.assertTrue(len(kinds) == 3 and min(kinds.values()) > 60, kinds)

    def test_kinds_of_marks_and_turns(self):
        claim = (Drawn.edge(3) - Drawn.edge(1) - Drawn.size(2)).at_most(1)
        zero, low, high = Ratio(0), Ratio(1, 4), Ratio(1, 2)
        for marks, turns, is_right in (
            ((zero, low, high), (0,), True), ((zero, low, high), (0, 5, FAR), True), ((zero, Ratio(1, 7), low, high), (0, 1), True),
            ([zero, low, high], (0,), False), ((zero, low, high), [0], False), ((0, low, high), (0,), False), ((zero, high), (0,), False),
            ((zero, low), (0,), False), ((low, high), (0,), False), ((zero, low, high, Ratio(3, 4)), (0,), False), ((zero,), (0,), False),
            ((), (0,), False), ((zero, low, high), (), False), ((zero, low, high), (False,), False), ((zero, low, high), (1,), False),
            ((zero, low, high), (0, 0), False), ((zero, low, high), (0, 2, 1), False), ((zero, low, high), (0, True), False),
            ((zero, low, high), (-1, 0), False), ((zero, low, high), (Ratio(0),), False), ((zero, low, low, high), (0,), False),
            ((zero, high, low), (0,), False), (None, (0,), False), ((zero, low, high), None, False), ("ab", (0,), False),
        ):
            self.assertIs(shows_judge(claim, Always(marks, turns)), is_right, (marks, turns))
        for value in any_values():
            self.assertIs(shows_judge(claim, Always(value, (0,))), False)
            self.assertIs(shows_judge(claim, Always((zero, low, high), value)), False)
            self.assertIs(shows_judge(claim, Always((zero, value, low, high), (0,))), False)
            self.assertIs(shows_judge(claim, Always((zero, low, high), (0, value))), isinstance(value, int) and value > 0 and value is not True)

    def test_most_marks_and_turns(self):
        claim = Drawn.size(1).at_least(0)
        for many, is_right in ((2, True), (2999, True), (3000, True), (3001, False)):
            marks = tuple(Ratio(at, 2 * (many - 1)) for at in range(many - 1)) + (Ratio(1, 2), Ratio(1))
            self.assertEqual(len(marks), many + 1)
            self.assertIs(shows_judge(claim, Always(marks[:-2] + marks[-1:], (0,))), False)
            self.assertIs(shows_judge(claim, Always(marks[1:2] + marks[2:], (0,))), False)
            marks = (Ratio(0), *marks[2:]) if many > 2 else marks
            self.assertIs(shows_judge(claim, Always(marks, (0,))), is_right, many)
        marks = (Ratio(0), Ratio(1, 2), Ratio(1))
        for many, is_right in ((1, True), (400, True), (401, True), (402, False)):
            self.assertIs(shows_judge(claim, Always(marks, tuple(range(many)))), is_right)
            self.assertIs(shows_judge(claim, Always(marks, tuple(3 * turn for turn in range(many)))), is_right)
        long = tuple(Ratio(at, 2 ** 90 + at) for at in range(1, 1400))
        marks = (Ratio(0), *sorted(long, key=Order), Ratio(1, 2), Ratio(1))
        self.assertIs(shows_judge(claim, Always(marks, tuple(range(401)))), True)
        thousand = (Drawn.size(1000, DOWN) - 1000 * Drawn.size(1, DOWN)).at_most(999)
        found = judge(thousand)
        self.assertEqual((len(found.marks), shows_judge(thousand, found)), (1001, True))
        self.assertIs(shows_judge(thousand, Always(found.marks, tuple(range(401)))), True)
        self.assertIs(shows_judge(thousand, Always(found.marks[:500] + found.marks[501:], (0,))), False)

    def test_turns_that_are_needed(self):
        far = Drawn.size(1).below(FAR) | Drawn.size(2).at_least(2 * FAR - 1)
        marks = (Ratio(0), Ratio(1, 4), Ratio(1, 2), Ratio(3, 4), Ratio(1))
        for turns, is_right in (
            ((0, FAR - 2, FAR - 1, FAR), True), ((0, FAR - 2, FAR - 1, FAR, FAR + 7), True), ((0, FAR - 2, FAR), False),
            ((0, FAR - 1, FAR), False), ((0, FAR - 2, FAR - 1), False), ((0,), False), ((0, FAR), False), ((0, 5, FAR - 2, FAR - 1, FAR), True),
        ):
            self.assertIs(shows_judge(far, Always(marks, turns)), is_right, turns)
        # Condition 3 for choices: one leader in both turns; condition 4: it must not be overtaken later.
        bend = (Drawn.size(1, DOWN) | 5).at_least(5)
        for turns, is_right in (((0, 4, 5), True), ((0, 3, 4, 5), True), ((0, 4), False), ((0, 5), False), ((0, 3, 5), False), ((0, 4, 6), False),
                                ((0,), False), ((0, 9), False), ((0, 4, 5, 6, 99), True)):
            self.assertIs(shows_judge(bend, Always((Ratio(0), Ratio(1)), turns)), is_right, turns)
            self.assertIs(always_is_right(bend, (Ratio(0), Ratio(1)), turns), is_right)
        # Atoms that settle nothing must not change later, either.
        level = (Drawn.size(1, DOWN) - Drawn.size(1, Rounding.all_up())).at_most(0)
        for atom in (Drawn.size(1, DOWN).at_most(3), Drawn.size(1, DOWN).at_least(4)):
            for turns, is_right in (((0,), False), ((0, 1), False), ((0, 1, 2, 3, 4), True), ((0, 2, 3, 4), True), ((0, 2, 4), False), ((0, 9), False)):
                self.assertIs(shows_judge(level | atom, Always((Ratio(0), Ratio(1)), turns)), is_right, turns)
        inner = ((Drawn.size(1, DOWN) | 5) & (Drawn.size(1, DOWN) * 2 | 3)).at_least(3)
        found = judge(inner)
        self.assertTrue(shows_judge(inner, found) and len(found.turns) > 4)
        for at in range(len(found.turns)):
            turns = found.turns[:at] + found.turns[at + 1:]
            self.assertIs(shows_judge(inner, Always(found.marks, turns)), always_is_right(inner, found.marks, turns))

    def test_sure_claims(self):
        marks = (Ratio(0), Ratio(1))
        self.assertIs(shows_judge(Claim.of(True), Always(marks, (0, 7))), True)
        self.assertIs(shows_judge(Claim.of(True), Always((Ratio(0), Ratio(1, 3), Ratio(1)), (0,))), True)
        self.assertIs(shows_judge(Claim.of(True), Always((Ratio(0), Ratio(2)), (0,))), False)
        self.assertIs(shows_judge(Claim.of(False), Always(marks, (0,))), False)


if __name__ == "__main__":
    unittest.main()
