"""The words of something drawn and of a claim, read into steps for a stack.

The steps are tuples. These put something on the stack: ("number", ratio), ("edge", unit, rounding),
("size", unit, rounding), ("true", unit, moves), ("sure", truth). These change the last things on it:
("times", count), ("add",), ("|",), ("&",), ("atom", is_strict), ("and",), ("or",).
"""

from allzooms.ratios import told_number
from allzooms.rounding_words import take_rounding
from allzooms.words import Words, whole_number

MEMBERS = ("edge", "size", "true", "(")


def drawn_steps(words, at):
    """The steps of something drawn whose text stands in the words from a place to their end."""
    return steps_from("sum", DrawnWords(words, at, False))


def claim_steps(words, at):
    """The steps of a claim whose text stands in the words from a place to their end."""
    return steps_from("claim", DrawnWords(words, at, True))


def steps_from(state, reading):
    """The steps that a reading finds. It goes from state to state, as texts may nest very deep."""
    while state != "end":
        if state == "claim":
            state = reading.claim_begin()
        elif state == "claim end":
            state = reading.claim_end()
        elif state == "sum":
            state = reading.sum_begin()
        else:
            state = reading.sum_end()
    return reading.steps


class DrawnWords:
    """A reading of the words of something drawn, or of a claim; each method tells the next state."""

    def __init__(self, words, at, is_claim):
        self.reader = Words(words, at)
        self.is_claim = is_claim
        self.steps = []
        # What is not closed: a bracket, the sign between its members so far, and for "(" what is to
        # be done with it: its factor, and whether it is the first member of its sum.
        self.nested = []

    def claim_begin(self):
        word = self.reader.ahead()
        if word == "[":
            self.reader.take("[")
            self.nested.append(["[", "", 1, True])
            return "claim"
        is_true_part = word == "true" and whole_number(self.reader.ahead(1)) is not None
        if word not in ("true", "false") or is_true_part:
            return "sum"
        self.reader.take(word)
        self.steps.append(("sure", word == "true"))
        return "claim end"

    def claim_end(self):
        if not self.nested:
            self.reader.finish()
            return "end"
        return self.close_member("]", ("and", "or"), "claim")

    def close_member(self, closing, signs, state):
        """Goes on behind a member of a bracket: to the next one, or behind the bracket."""
        word = self.reader.ahead()
        row = self.nested[-1]
        if word in signs and row[1] in ("", word) or word == closing and row[1]:
            self.reader.take(word)
        else:
            self.reader.refuse()
        if row[1]:
            self.steps.append((row[1],))
        if word != closing:
            row[1] = word
            return state
        self.nested.pop()
        if closing == "]":
            return "claim end"
        return self.put_member(row[2], row[3])

    def sum_begin(self):
        if self.reader.ahead() == "-":
            self.reader.take("-")
            return self.member(-self.counted(), True)
        number = told_number(self.reader.ahead())
        if number is None:
            return self.member(1, True)
        if number.under == 1 and self.reader.ahead(1) in MEMBERS:
            return self.member(self.counted(), True)
        self.reader.take(self.reader.ahead())
        self.steps.append(("number", number))
        return "sum end"

    def counted(self):
        """The count that stands here, 1 if there is none."""
        number = whole_number(self.reader.ahead())
        if number is None:
            return 1
        if number < 2:
            self.reader.refuse()
        return self.reader.integer()

    def member(self, factor, is_first):
        """Reads a member of a sum but for its sign and its count."""
        word = self.reader.ahead()
        if word not in MEMBERS:
            self.reader.refuse()
        self.reader.take(word)
        if word == "(":
            self.nested.append(["(", "", factor, is_first])
            return "sum"
        unit = self.reader.integer()
        if word == "true":
            self.reader.take("and")
            self.steps.append((word, unit, self.reader.integer()))
        else:
            self.steps.append((word, unit, take_rounding(self.reader)))
        return self.put_member(factor, is_first)

    def put_member(self, factor, is_first):
        if factor != 1:
            self.steps.append(("times", factor))
        if not is_first:
            self.steps.append(("add",))
        return "sum end"

    def sum_end(self):
        word = self.reader.ahead()
        if word == "+" or word == "-":
            self.reader.take(word)
            return self.member(self.counted() if word == "+" else -self.counted(), False)
        if self.nested and self.nested[-1][0] == "(":
            return self.close_member(")", ("|", "&"), "sum")
        if not self.is_claim:
            self.reader.finish()
            return "end"
        if word != "<=" and word != "<":
            self.reader.refuse()
        self.reader.take(word)
        self.reader.take("0")
        self.steps.append(("atom", word == "<"))
        return "claim end"
