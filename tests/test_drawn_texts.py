import random
import unittest

from allzooms.drawn import Claim, Drawn
from allzooms.errors import BadClaim, BadDrawn, BadText, SnapError, TooMany
from allzooms.ratios import Ratio
from tests.check import LONG, Case
from tests.grammar import first_wrong, mutated
from tests.reckon import Drawing, made, made_claim

WORDS = ("edge", "size", "true", "and", "or", "(", ")", "[", "]", "|", "&", "+", "-", "<=", "<", "0", "1", "2", "-1", "-2",
         "1/2", "-1/2", "2/4", "01", "from", "above", "false", "", "x", "7", "from 1/2", "edge 1 from 1/2", "+ 3", "- 1")


class TextsTest(Case):
    def judged(self, kind, goal, text):
        """Holds what `read` does with a text against the chart of its forms."""
        wrong = first_wrong(goal, text)
        if wrong is not None:
            self.refuses(BadText(0, wrong), kind.read, text)
            return
        try:
            self.assertEqual(str(kind.read(text)), text)
        except BadText as error:
            self.assertEqual((error.line, error.word), (0, len(text.split(" "))), text)
        except SnapError as error:
            self.assertIn(type(error), (BadDrawn, BadClaim, TooMany))

    def test_read_back_and_near_texts(self):
        for seed in range(90):
            source = random.Random(seed)
            drawing = Drawing(source)
            for kind, goal, thing in ((Drawn, "DRAWN", made(drawing.thing())),
                                      (Claim, "CLAIM", made_claim(drawing.claim()))):
                text = str(thing)
                self.assertIsNone(first_wrong(goal, text))
                back = kind.read(text=text)
                self.assertIs(type(back), kind)
                self.assertEqual((back, str(back)), (thing, text))
                for _ in range(15):
                    self.judged(kind, goal, mutated(source, text, WORDS))

    def test_each_word_left_out_and_doubled(self):
        text = "-1/2 - 2 edge 1 from 1/2 + 2 edge 3 above 0 + true 2 and -3 + 3 ( 1 | size 2 from 1 )"
        claim = f"[ {text} <= 0 or [ size 1 from 1 < 0 and size 3 from 1 < 0 ] ]"
        for kind, goal, told in ((Drawn, "DRAWN", text), (Claim, "CLAIM", claim)):
            words = told.split(" ")
            for at in range(len(words)):
                for near in (words[:at] + words[at + 1:], words[:at] + [words[at]] + words[at:],
                             words[:at] + ["x"] + words[at + 1:], words[:at] + ["5"] + words[at:], words[:at]):
                    if near:
                        self.judged(kind, goal, " ".join(near))

    def test_drawn_words(self):
        half = "from 1/2"
        for text, word in (
            ("", 0), ("x", 0), ("+ 1", 0), ("1 x", 1), ("1 + 2", 3), ("1 +", 2), ("1 + 1", 2), (f"1 edge 1 {half}", 0),
            (f"-2 edge 1 {half}", 0), (f"0 size 1 {half}", 0), ("1 true 1 and 0", 0), ("1 (", 0),
            (f"1/2 edge 1 {half}", 1), (f"- 1 edge 1 {half}", 1), (f"5 + 1 edge 1 {half}", 2), ("- 1/2", 1), ("- 5", 2),
            ("- 5 + 1", 2), ("2 true 1 and 0", 5), ("true -1 and 0", 4), ("true 0 and 0", 4), ("true 1 or 0", 2),
            ("edge", 1), ("edge 1", 2), ("edge 1/2", 1), ("edge 1 from", 3), ("edge 1 from 0", 3), ("edge 1 above 1", 3),
            (f"edge 1 {half} x", 4), (f"edge 1 {half} + edge 1 {half}", 9), (f"edge 2 {half} + edge 1 {half}", 9),
            (f"size 0 {half}", 4), ("( 1 )", 2), ("( 1 | 2 & 3 )", 4), ("( 1 | 2 )", 5), ("( 1 | 2", 4),
            (f"size 1 {half} + 0", 5), (f"size 1 {half} + 3", 6), (f"0 + size 1 {half}", 6),
            (f"+ size 1 {half}", 0), (f"size 1  {half}", 2), (f" size 1 {half}", 0), (f"size 1 {half} ", 4),
            ("( size 1 from 1 | 1 )", 8), ("( " * 1500, 1500), ("- ( " * 700, 1400), ("1\n", 0),
        ):
            self.refuses(BadText(0, word), Drawn.read, text)

    def test_claim_words(self):
        for text, word in (
            ("", 0), ("True", 0), ("true true", 1), ("true 1", 2), ("true 1 and", 3), ("true and", 1), ("0 < 0", 3),
            ("[ true and true ]", 5), ("[ true and true or true ]", 4), ("[ true ]", 2), ("[ true", 2), ("[", 1),
            ("size 1 from 1 <= 1", 5), ("size 1 from 1 <=", 5), ("size 1 from 1", 4), ("size 1 from 1 = 0", 4),
            ("size 1 from 1 < 0 <", 6), ("[ " * 1500, 1500), ("true 1 and 0 <= 0 and", 6), ("1 size 1 from 1 < 0", 0),
            ("[ true 1 and 0 < 0 and true 1 and 0 < 0 ]", 15), ("[ size 2 from 1 < 0 or size 1 from 1 < 0 ]", 15),
        ):
            self.refuses(BadText(0, word), Claim.read, text)
        for text in ("true", "false", "true 1 and 0 <= 0", "[ size 1 from 1 < 0 or true 2 and 0 <= 0 ]"):
            self.assertEqual(str(Claim.read(text)), text)

    def test_no_strings(self):
        for kind in (Drawn, Claim):
            self.refuses_all(lambda value: BadText(0, 0), lambda value: isinstance(value, str) and value, kind.read)

    def test_what_the_classes_refuse(self):
        many = " + ".join(f"edge {unit} from 1/2" for unit in range(1, 26))
        self.refuses(TooMany("terms", 24), Drawn.read, many)
        self.refuses(TooMany("terms", 24), Claim.read, many + " <= 0")
        self.refuses(BadDrawn("true"), Drawn.read, "( edge 1 from 1/2 | true 1 and 0 )")
        self.refuses(BadDrawn("scroll"), Drawn.read, "( edge 1 from 1/2 & 2 )")
        self.refuses(BadClaim("scroll"), Claim.read, "edge 1 from 1/2 < 0")
        nested = "size 1 from 1"
        for number in range(25):
            nested = f"( {nested} {'|&'[number % 2]} {number + 1} )"
        self.refuses(TooMany("choices", 24), Drawn.read, nested)
        self.refuses(BadText(0, len(nested.split(" ")) + 1), Drawn.read, nested + " +")

    def test_long_numbers_and_deep_texts(self):
        thing = Drawn.edge(LONG) - Drawn.edge(-LONG) + Ratio(LONG, LONG - 1)
        self.assertEqual(Drawn.read(str(thing)), thing)
        claim = Drawn.size(1).at_most(0)
        for number in range(200):
            claim = claim & Drawn.true(1).below(number + 1) if number % 2 else claim | Drawn.true(2).below(number + 1)
        self.assertEqual(Claim.read(str(claim)), claim)
        self.assertEqual(~~claim, claim)


if __name__ == "__main__":
    unittest.main()
