import random
import unittest
from fractions import Fraction

from allzooms.drawn import Claim
from allzooms.errors import BadText, SnapError, TooMany
from allzooms.pages import Page
from allzooms.ratios import Ratio
from allzooms.reader import read_screen
from allzooms.screens import Screen
from allzooms.texts import screen_text
from allzooms.ways import ByEdges, Style
from tests.check import LONG, Case, any_values
from tests.grammar import as_written, first_wrong, mutated
from tests.plain_claims import claim_tree, small_drawing
from tests.plain_pixels import any_boxes, any_way, any_ways, made_page, made_style
from tests.reckon import holds, made_claim, ratio

KEYS = (("page", Page), ("style", Style), ("zoom", Ratio), ("scroll", Ratio))
VOCABULARY = ("page", "style", "zoom", "scroll", "guard", "a", "b", "way", "self", "abcdefghi", "A", "0", "1", "2", "-1", "1/2", "2/4", "-1/3", "-0", "01",
              ";", "(", ")", "[", "]", "and", "or", "<=", "<", "edge", "size", "true", "false", "from", "above", "+", "-", "|", "&", "edges", "within",
              "carried", "row", "least", "", "\n")
PLAIN = "page a 0 3 ; b 3 3\nstyle edges from 1/2 from 1/2\nzoom 1/2\nscroll 0"


def any_screen(source):
    """A screen by chance, with some guards that hold."""
    zoom = Fraction(source.randint(1, 9), source.randint(1, 4))
    scroll = Fraction(source.randint(-9, 9), source.randint(1, 4))
    screen = Screen(made_page(any_boxes(source)), made_style(any_way(source), any_ways(source)), ratio(zoom), ratio(scroll))
    drawing = small_drawing(source)
    for _ in range(source.randint(0, 4)):
        tree = claim_tree(drawing, source.randint(0, 2))
        claim = made_claim(tree)
        screen.guard(source.choice(("a", "b", "c", "way", "self", "zzzzzzzz")), claim if holds(tree, zoom, scroll) else ~claim)
    return screen


def is_guard_name(word):
    return 1 <= len(word) <= 8 and all("a" <= letter <= "z" for letter in word)


def wrong_number(words, at, most):
    """The first wrong word where one number stands; None if all is well."""
    number = as_written(words[at]) if at < len(words) else None
    if number is None or most is not None and number <= most:
        return at
    return at + 1 if len(words) > at + 1 else None


def wrong_part(words, at, kind):
    """The first wrong word of a part, from a word on, its class and its text in view; 0 if it is refused as a whole."""
    if kind is Ratio:
        return wrong_number(words, at, None)
    rest = " ".join(words[at:])
    found = first_wrong(kind.__name__.upper(), rest) if len(words) > at else 0
    if found is not None:
        return at + found
    try:
        kind.read(rest)
    except BadText as error:
        assert error.word == len(words) - at
        return len(words)
    except SnapError:
        return 0
    return None


def first_refused(text):
    """The row and the word that are refused; None if all rows can stand."""
    rows = [row.split(" ") for row in text.split("\n")]
    last, view = "", []
    for line in range(max(4, len(rows))):
        if line == len(rows) or rows[line][0] != (KEYS[line][0] if line < 4 else "guard"):
            return line, 0
        words = rows[line]
        if line < 4:
            found = wrong_number(words, 1, 0) if line == 2 else wrong_part(words, 1, KEYS[line][1])
            if found is None and line > 1:
                view.append(Ratio.read(words[1]))
        else:
            if len(words) == 1 or not is_guard_name(words[1]) or words[1] <= last:
                return line, 1
            last = words[1]
            found = wrong_part(words, 2, Claim)
            if found is None and not Claim.read(" ".join(words[2:]))(*view):
                found = 0
        if found is not None:
            return line, found
    return None


def changed_rows(source, text):
    """A text with rows or words left out, put in, exchanged, doubled."""
    for _ in range(source.choice((1, 1, 2))):
        rows = text.split("\n")
        at = source.randrange(len(rows))
        kind = source.randint(0, 9)
        if kind == 0:
            del rows[at]
        elif kind == 1:
            rows.insert(at, rows[source.randrange(len(rows))])
        elif kind == 2:
            other = source.randrange(len(rows))
            rows[at], rows[other] = rows[other], rows[at]
        elif kind == 3:
            rows.insert(at, source.choice(("", "guard a true", "guard zz size 1 from 1/2 < 0", "zoom 1", "page -", "- 1")))
        else:
            rows[at] = mutated(source, rows[at], VOCABULARY)
        text = "\n".join(rows)
    return text


class ReaderTest(Case):
    def test_round_trip(self):
        for seed in range(150):
            screen = any_screen(random.Random(seed))
            text = screen_text(screen)
            found = read_screen(text)
            self.assertIs(type(found), Screen)
            self.assertTrue(found == screen and screen_text(found) == text and found.shown() == screen.shown())
            self.assertEqual((found.history, found.moved, found.guards), ((), (), screen.guards))
            self.assertEqual((found.zoom_now, found.scroll_now), (screen.zoom_now, screen.scroll_now))
            self.assertIs(first_refused(text), None)
            for name in found.guards:
                self.assertTrue(isinstance(found.unguard(name), Claim))
            self.assertEqual(found.history, ("unguard",) * len(screen.guards))
        far = f"page -\nstyle row above 0\nzoom {LONG}/7\nscroll -{LONG}"
        self.assertEqual(screen_text(read_screen(text=far)), far)

    def test_changed_texts(self):
        kinds = {}
        for seed in range(1500):
            source = random.Random(seed)
            text = changed_rows(source, screen_text(any_screen(source)))
            refused = first_refused(text)
            if refused is None:
                self.assertEqual(screen_text(read_screen(text)), text)
            else:
                self.refuses(BadText(*refused), read_screen, text)
            key = None if refused is None else (min(refused[0], 4), min(refused[1], 2))
            kinds[key] = kinds.get(key, 0) + 1
        self.assertTrue(len(kinds) == 16 and min(kinds.values()) > 5, kinds)

    def test_words(self):
        for text, line, word in (
            ("", 0, 0), (" ", 0, 0), ("page", 0, 1), ("page ", 0, 1), ("page -", 1, 0), ("page - -", 0, 2), ("Page -", 0, 0), ("page a 0 3 ; b 3", 0, 7),
            ("page a 0 3 ; a 3 3", 0, 0), ("page -\nstyle", 1, 1), ("page -\nstyle row from 1/2", 2, 0), ("page -\nzoom 1\nstyle row from 1/2", 1, 0),
            (PLAIN.replace("zoom 1/2", "zoom 0"), 2, 1), (PLAIN.replace("zoom 1/2", "zoom -1 x y"), 2, 1), (PLAIN.replace("zoom 1/2", "zoom 1 x"), 2, 2),
            (PLAIN.replace("zoom 1/2", "zoom"), 2, 1), (PLAIN.replace("zoom 1/2", "zoom 2/4"), 2, 1), (PLAIN.replace("\nscroll 0", ""), 3, 0),
            (PLAIN + " 0", 3, 2), (PLAIN + "\n", 4, 0), (PLAIN + "\nzoom 1", 4, 0), (PLAIN + "\nguard", 4, 1), (PLAIN + "\nguard a", 4, 2),
            (PLAIN + "\nguard A true", 4, 1), (PLAIN + "\nguard abcdefghi true", 4, 1), (PLAIN + "\nguard b true\nguard a true", 5, 1),
            (PLAIN + "\nguard b true\nguard b true", 5, 1), (PLAIN + "\nguard b true\nguard a nonsense", 5, 1), (PLAIN + "\nguard b false", 4, 0),
            (PLAIN + "\nguard b false\nguard a", 4, 0), (PLAIN + "\nguard b true true", 4, 3), (PLAIN + "\nguard b size 1 from 1/2 <= 0", 4, 0),
            (PLAIN + "\nguard b edge 1 from 1/2 <= 0", 4, 0), (PLAIN + "\nguard b 2 <= 1", 4, 4), (PLAIN + "\nguard b 2 <= 0", 4, 5),
            (PLAIN.replace("edges from 1/2 from 1/2", "edges from 1/2 above 1"), 1, 5), (PLAIN.replace("a 0 3", "a 0 -3"), 0, 3),
            (PLAIN.replace("0 3", "00 3"), 0, 2), (PLAIN.replace("style ", "style  "), 1, 1), (PLAIN.replace("\n", "\n\n", 1), 1, 0),
            (PLAIN.replace("1/2 from 1/2", "1/2 from 1/2 ; b row from 1/2 ; a row from 1/2"), 1, 16), (PLAIN.replace("1/2 from 1/2", "1/2 from 1/2 ; way row from 1/2"), 1, 7),
            ("\n" + PLAIN, 0, 0), (PLAIN.replace("\n", " "), 0, 8),
        ):
            self.refuses(BadText(line, word), read_screen, text)
            self.assertEqual(first_refused(text), (line, word), text)
        many = "page " + " ; ".join([letter + "x 0 1" for letter in "abcdefghijklmnopqrstuvwxy"])
        self.refuses(BadText(0, 0), read_screen, many)
        self.assertEqual(read_screen(PLAIN + "\nguard self true\nguard way true").guards, ("self", "way"))

    def test_no_strings(self):
        for value in [*any_values(), PLAIN.split("\n"), (PLAIN,), read_screen(PLAIN)]:
            self.refuses(BadText(0, 0), read_screen, value)

    def test_what_draw_raises(self):
        names = [one + other for one in "abcd" for other in "abcdef"]
        page = "page " + " ( ".join([name + " 1 9" for name in names]) + " )" * 23
        style = "style edges from 1/2 from 1/2" + "".join([f" ; {name} within from 1/{at + 3}" for at, name in enumerate(names)])
        text = "\n".join([page, style, "zoom 1", "scroll 0"])
        self.refuses(TooMany("terms", 24), read_screen, text)
        self.refuses(TooMany("terms", 24), read_screen, text + "\nguard a true")
        self.refuses(BadText(4, 0), read_screen, text + "\nguard a false")
        self.refuses(BadText(4, 2), read_screen, text + "\nguard a")
        self.refuses(BadText(2, 1), read_screen, text.replace("zoom 1", "zoom 0"))
        self.refuses(BadText(3, 0), read_screen, text.replace("\nscroll 0", ""))
        self.assertEqual(len(read_screen(text.replace(" ; de within from 1/25", ""))), 24)

    def test_refused_as_a_whole(self):
        claim = "guard a true 1 and 0 <= 0"
        self.refuses(BadText(4, 0), read_screen, PLAIN + "\n" + claim)
        self.assertEqual(read_screen(PLAIN + "\nguard a - true 1 and 0 <= 0").guards, ("a",))
        for claim in ("( true 1 and 0 | 2 ) <= 0", "( edge 1 from 1/2 | 2 ) <= 0", "- edge 1 from 1/2 < 0"):
            self.refuses(BadText(4, 0), read_screen, PLAIN + "\nguard a " + claim)
        many = " + ".join([f"size {unit} from 1/2" for unit in range(1, 26)])
        self.refuses(BadText(4, 0), read_screen, PLAIN + f"\nguard a {many} <= 0")
        self.assertTrue(Screen(Page(), Style(ByEdges())) == read_screen("page -\nstyle edges from 1/2 from 1/2\nzoom 1\nscroll 0"))


if __name__ == "__main__":
    unittest.main()
