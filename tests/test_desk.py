import random
import unittest

from allzooms.compared import alike, row_range
from allzooms.desk import Desk
from allzooms.drawn import Claim, Drawn
from allzooms.errors import BadClaim, BadDrawn, BadLine, BadNumber, BadZoom, NoBox, NoThing, SnapError, Taken, TooMany, Unlike
from allzooms.most import Endless, greatest, least
from allzooms.pages import Box, Page
from allzooms.ratios import Ratio
from allzooms.roundings import Rounding
from allzooms.sights import Sight, seen
from allzooms.still import zooms_at
from allzooms.views import judge, share, zooms_always, zooms_ever
from allzooms.ways import ByEdges, InRow, Style, Within, draw
from tests.check import LONG, Case, any_values
from tests.grammar import first_wrong, mutated

READ = {"drawn": Drawn, "claim": Claim, "page": Page, "style": Style}
# The kinds of the names behind the first word of a line; None for a name that is told.
KINDS = {
    "side": (None, "page", "style"), "most": (None, "drawn", "drawn"), "below": (None, "drawn", "drawn"), "equal": (None, "drawn", "drawn"),
    "and": (None, "claim", "claim"), "or": (None, "claim", "claim"), "not": (None, "claim"), "sum": (None, "drawn", None, "drawn"), "forget": ("any",),
    "at": ("worth",), "pixels": ("page", "style"), "judge": ("claim",), "share": ("claim",), "zooms": ("claim",), "greatest": ("drawn",),
    "least": ("drawn",), "alike": ("page", "style", "style"), "show": ("any",),
}
DRAWNS = ("edge 0 from 1/2", "edge 1 from 1/2", "edge 3 above 1/2", "size 2 from 1/2", "- edge 1 from 1/2 + edge 3 from 1/2", "0", "-7/2", "true 3 and 0",
          "edge 3 from 1/2 - true 3 and 1", "( 1 | size 1 from 1/2 )", "edge 2 from 1/2 - edge 1 from 1/2", "( true 1 and 0 | 2 )", "size 1 from 1/2 + 1")
CLAIMS = ("true", "false", "size 1 from 1/2 <= 0", "2 - size 1 above 0 < 0", "[ size 1 from 1/2 <= 0 or size 2 from 1/2 <= 0 ]", "edge 1 from 1/2 <= 0",
          "[ true 1 and 0 <= 0 or size 1 from 1/2 <= 0 ]", "[ size 2 from 1/2 <= 0 or size 1 from 1/2 <= 0 ]", "2 <= 1")
PAGES = ("-", "a 0 3 ; b 3 3", "a 0 3 ( b 1 1 )", "b 2 9", "a 0 3 ; a 3 3", "c -1 4 ; d 0 2 ( e 0 1 ; f 1 1 )")
STYLES = ("edges from 1/2 from 1/2", "within from 1/2", "row above 0 ; b least 3 carried from 1/3", "row from 1/2 ; b row from 1/2 ; a row from 1/2",
          "row from 1/2 ; a within from 1/2")
NAMES = ("a", "b", "c", "d", "e", "f", "p", "q", "s", "t")
RATIOS = ("1", "1/2", "0", "7/3", "-1/4", "12")
WORDS = (*NAMES, *KINDS, *READ, "undo", "row", "seen", "left", "right", "every", "some", "from", "above", "edge", "size", "1", "0", "2", "-1", "1/2", "2/4", "",
         "self", "way", "abcdefghi", "A", "+", "-", "<=", ";", "(", ")", "[", "]", "true", "false")


def kind_of(thing):
    return [kind for kind, of in READ.items() if isinstance(thing, of)][0]


def bound_text(found):
    if isinstance(found, Endless):
        return f"endless {found.gain}"
    return f"{'reached' if found.is_reached else 'near'} {found.number}"


class Model:
    """A plain desk: what names stand for, and what they stood for ahead of each line that can be taken back."""

    def __init__(self):
        self.things = {}
        self.earlier = []

    def say(self, line):
        """The answer; raises what the document tells."""
        wrong = first_wrong("LINE", line)
        if wrong is not None:
            raise BadLine(wrong)
        words = line.split(" ")
        if words[0] in READ:
            text = " ".join(words[2:])
            try:
                thing = READ[words[0]].read(text)
            except SnapError as error:
                # A text whose words can all stand, but another one than that of what it tells.
                if hasattr(error, "word"):
                    raise BadLine(len(words)) from None
                raise
            return self.put(words[1], thing)
        told = [self.thing(word, kind) for word, kind in zip(words[1:], KINDS.get(words[0], ()))]
        if words[0] == "forget":
            return self.put(words[1], None)
        made = self.made(words, told)
        return self.put(words[1], made) if made is not None else self.told(words, told)

    def thing(self, word, kind):
        if kind is None:
            return word
        if word not in self.things:
            raise NoThing(word)
        found = kind_of(self.things[word])
        if found not in {"any": READ, "worth": ("drawn", "claim")}.get(kind, (kind,)):
            raise Unlike(word)
        return self.things[word]

    def put(self, name, thing):
        self.earlier.append(dict(self.things))
        self.things[name] = thing
        if thing is None:
            del self.things[name]
        return "ok"

    def made(self, words, told):
        """What the name behind the first word stands for from now on; None if the line makes nothing."""
        if words[0] == "side":
            drawing = draw(told[1], told[2])
            return drawing.left(words[4]) if words[5] == "left" else drawing.right(words[4])
        if words[0] == "sum":
            return told[1] + told[3] * int(words[3])
        work = {"most": Drawn.at_most, "below": Drawn.below, "equal": Drawn.equals, "and": lambda one, other: one & other,
                "or": lambda one, other: one | other, "not": lambda one: ~one}.get(words[0])
        return work(*told[1:]) if work else None

    def told(self, words, told):
        """The answer of a line that changes nothing, but for undo."""
        if words[0] == "undo":
            if not self.earlier:
                return "nothing"
            self.things = self.earlier.pop()
            return "ok"
        if words[0] == "at":
            found = told[0](Ratio.read(words[2]), Ratio.read(words[3]))
            return {True: "yes", False: "no"}[found] if isinstance(told[0], Claim) else str(found)
        if words[0] == "pixels":
            found = draw(*told)(Ratio.read(words[3]), Ratio.read(words[4]))
            return " ; ".join(f"{name} {left} {right}" for name, (left, right) in found.items()) if found else "-"
        if words[0] == "judge":
            found = judge(told[0])
            return "always" if found else f"broken {found.zoom} {found.scroll}"
        if words[0] == "zooms":
            work = {"every": zooms_always, "some": zooms_ever}.get(words[2], lambda claim: zooms_at(claim, Ratio.read(words[2])))
            return str(work(told[0]))
        if words[0] == "alike":
            found = alike(draw(told[0], told[1]), draw(told[0], told[2]))
            return "alike" if found else f"parted {found.name} {found.side} {found.zoom} {found.scroll}"
        if words[0] == "row":
            return " ".join(map(str, row_range(Rounding.read(" ".join(words[1:3])), int(words[3]))))
        if words[0] == "seen":
            found = seen(*[Sight(int(unit), int(pixel)) for unit, pixel in zip(words[1::2], words[2::2])])
            return f"seen {found.zoom} {found.scroll}" if found else "never"
        works = {"share": lambda claim: str(share(claim)), "greatest": lambda drawn: bound_text(greatest(drawn)),
                 "least": lambda drawn: bound_text(least(drawn)), "show": lambda thing: f"{kind_of(thing)} {thing}"}
        return works[words[0]](told[0])


def any_name(source, model, kind):
    """A name by chance, mostly one that stands for a thing of a kind."""
    fits = [name for name, thing in model.things.items() if kind in ("any", kind_of(thing)) or kind == "worth" and kind_of(thing) in ("drawn", "claim")]
    return source.choice(fits) if fits and source.random() < 0.85 else source.choice(NAMES)


def any_line(source, model):
    """A line by chance."""
    word = source.choice((*READ, *READ, *READ, *KINDS, "sum", "equal", "row", "seen", "undo", "undo"))
    if word in READ:
        return f"{word} {source.choice(NAMES)} " + source.choice({"drawn": DRAWNS, "claim": CLAIMS, "page": PAGES, "style": STYLES}[word])
    if word in ("undo", "row", "seen"):
        numbers = " ".join(str(source.randint(-3, 9)) for _ in range(2 * source.randint(1, 3)))
        return {"undo": word, "row": f"row from 1/{source.randint(1, 4)} {source.randint(0, 9)}", "seen": "seen " + numbers}[word]
    words = [word]
    for kind in KINDS[word]:
        words.append(source.choice(NAMES) if kind is None else any_name(source, model, kind))
    if word == "sum":
        words[3] = str(source.randint(-2, 2))
    words += {"side": [source.choice("abcd"), source.choice(("left", "right"))], "at": [source.choice(RATIOS), source.choice(RATIOS)],
              "pixels": [source.choice(RATIOS), source.choice(RATIOS)], "zooms": [source.choice((*RATIOS, "every", "some"))]}.get(word, [])
    return " ".join(words)


def state_of(desk):
    """All that a desk tells but for its lines that can be taken back one by one."""
    return list(desk), desk.lines(), desk.changes, [desk[name] for name in desk]


class DeskTest(Case):
    def same_desk(self, desk, model):
        """Whether a desk tells what its model tells."""
        self.assertEqual((list(desk), len(desk), desk.changes), (sorted(model.things), len(model.things), len(model.earlier)))
        for name in model.things:
            self.assertTrue(name in desk and desk[name] == model.things[name])
        self.assertEqual(desk.lines(), [f"{kind_of(model.things[name])} {name} {model.things[name]}" for name in sorted(model.things)])

    def said(self, desk, model, line):
        """Says a line to both; whether it raised."""
        try:
            told = model.say(line)
        except SnapError as error:
            before = state_of(desk)
            self.refuses(error, desk.say, line)
            self.assertEqual(state_of(desk), before)
            return error
        self.assertEqual(desk.say(line), told, line)
        return None

    def test_scripts(self):
        raised = {}
        for seed in range(200):
            source = random.Random(seed)
            desk, model = Desk(), Model()
            for _ in range(35):
                line = any_line(source, model)
                if source.random() < 0.1:
                    line = mutated(source, line, WORDS)
                error = self.said(desk, model, line)
                key = (line.split(" ")[0], type(error).__name__ if error else None)
                raised[key] = raised.get(key, 0) + 1
            self.same_desk(desk, model)
            other = Desk()
            other.run(*desk.lines())
            self.assertTrue(other == desk and other.lines() == desk.lines() and other.changes == len(desk))
            for many in range(desk.changes, -1, -1):
                self.assertEqual((desk.changes, self.said(desk, model, "undo")), (many, None))
                self.same_desk(desk, model)
            self.assertEqual((len(desk), desk.say("undo"), desk.changes), (0, "nothing", 0))
        for word in (*KINDS, *READ, "row", "seen", "undo"):
            self.assertTrue(raised.get((word, None), 0) > 12, word)
        for error in ("NoThing", "Unlike", "BadLine", "NoBox", "BadZoom", "BadClaim", "BadDrawn", "BadNumber", "Taken"):
            self.assertTrue(any(key[1] == error for key in raised), error)

    def test_changed_lines(self):
        desk, model = Desk(), Model()
        for line in ("page p a 0 3 ; b 3 3 ( c 1 1 )", "style s edges from 1/2 from 1/2", "style t row from 1/2", "drawn d edge 3 from 1/2", "drawn e edge 1 from 1/2",
                     "equal q d e", "sum f d -1 e", "most c f f"):
            self.assertIs(self.said(desk, model, line), None)
        lines = ("drawn a - edge 1 from 1/2 + edge 3 from 1/2", "claim a [ size 1 from 1/2 <= 0 or size 2 from 1/2 <= 0 ]", "page a b 0 2 ( c 1 1 )",
                 "style a edges from 1/2 above 0 ; b least 2 row from 1/2", "side a p s b left", "most a d e", "below a d e", "equal a d e", "and a q c", "or a q c",
                 "not a q", "sum a d 2 e", "forget d", "at d 1/2 -1", "at q 1 0", "pixels p s 1/2 0", "judge q", "share q", "zooms q 1/2", "zooms q every",
                 "zooms q some", "greatest f", "least f", "alike p s t", "row above 1/2 3", "seen 10 7 30 22", "show p", "undo")
        words_known = sorted({word for line in lines for word in line.split(" ")} | set(WORDS))
        source = random.Random(5)
        kinds = {}
        for line in lines:
            words = line.split(" ")
            changed = [line, "", line + " ", " " + line, line + " x", line.upper()]
            for at in range(len(words)):
                changed += [" ".join(words[:at] + words[at + 1:]), " ".join(words[:at + 1] + words[at:]), " ".join(words[:at])]
                for _ in range(9):
                    changed += [" ".join(words[:at] + [source.choice(words_known)] + words[at + 1:]), " ".join(words[:at] + [source.choice(words_known)] + words[at:])]
                changed += [" ".join(words[:at] + words[at:at + 2][::-1] + words[at + 2:])]
            for text in changed:
                error = self.said(desk, model, text)
                kinds[type(error).__name__] = kinds.get(type(error).__name__, 0) + 1
                if desk.changes > 8:
                    self.assertEqual((desk.say("undo"), model.say("undo")), ("ok", "ok"))
                while desk.changes < 8:
                    self.assertIs(self.said(desk, model, "most c f f"), None)
        self.assertTrue(kinds["BadLine"] > 1000 and kinds["NoThing"] > 60 and kinds["Unlike"] > 20 and kinds["NoneType"] > 150, kinds)

    def test_answers(self):
        desk = Desk()
        for line, answer in (
            ("drawn d 1 - size 1 above 0 + size 1 from 1/2", "ok"), ("show d", "drawn 1 - size 1 above 0 + size 1 from 1/2"), ("greatest d", "reached 1"),
            ("least d", "reached 0"), ("at d 1/4 9", "0"), ("at d 3/4 0", "1"), ("drawn x true 1 and 0", "ok"), ("least x", "near 0"), ("greatest x", "endless 1"),
            ("at x 2/3 5", "2/3"), ("drawn n 1/2 - size 3 from 1/2", "ok"), ("least n", "endless -3"), ("greatest n", "reached 1/2"), ("drawn f 1", "ok"),
            ("drawn g size 3 from 1/2", "ok"), ("most m g f", "ok"), ("show m", "claim -1 + size 3 from 1/2 <= 0"), ("share m", "0"),
            ("zooms m 1/2", "in 1/2 out out from 1/2 turn 1"), ("zooms m every", "in 1/2 out out from 1/2 turn 1"), ("zooms m some", "in 1/2 out out from 1/2 turn 1"),
            ("at m 1 0", "no"), ("not k m", "ok"), ("at k 1 0", "yes"), ("below k g f", "ok"), ("at k 1/3 0", "no"), ("at k 1/9 0", "yes"), ("equal k g f", "ok"),
            ("at k 1/3 0", "yes"), ("at k 1/9 0", "no"), ("and k k m", "ok"), ("at k 1/3 0", "yes"), ("or k k m", "ok"), ("at k 1/9 0", "yes"), ("claim j true", "ok"),
            ("judge j", "always"), ("share j", "1"), ("sum f f -3 g", "ok"), ("show f", "drawn 1 - 3 size 3 from 1/2"), ("page p a 0 2 ; b 2 1", "ok"),
            ("style s row from 1/2", "ok"), ("style e edges from 1/2 from 1/2", "ok"), ("alike p s s", "alike"), ("pixels p s 1/4 1/2", "a 1 2 ; b 2 2"),
            ("page o -", "ok"), ("pixels o s 1 0", "-"), ("alike o s e", "alike"), ("row above 0 10", "0 9"), ("row from 1 10", "-9 0"), ("seen 0 0 10 -9", "never"),
            ("forget o", "ok"), ("undo", "ok"), ("show o", "page -"), ("show s", "style row from 1/2"), ("side l p e b left", "ok"), ("show l", "drawn edge 2 from 1/2"),
            ("side l p s b right", "ok"), ("show l", "drawn edge 0 from 1/2 + size 1 from 1/2 + size 2 from 1/2"),
        ):
            self.assertEqual(desk.say(line), answer, line)
        kind, at, scroll = desk.say("judge m").split(" ")
        self.assertTrue(kind == "broken" and not desk["m"](Ratio.read(at), Ratio.read(scroll)))
        kind, name, side, at, scroll = desk.say("alike p s e").split(" ")
        pixels = [desk.say(f"pixels p {style} {at} {scroll}").split(" ") for style in "se"]
        self.assertEqual((kind, name, side, pixels[0][2] == pixels[1][2]), ("parted", "a", "right", False))
        kind, at, scroll = desk.say("seen 1 1 3 5").split(" ")
        self.assertTrue(kind == "seen" and Sight(1, 1)(Ratio.read(at), Ratio.read(scroll)) and Sight(3, 5)(Ratio.read(at), Ratio.read(scroll)))

    def test_errors_in_their_order(self):
        desk = Desk()
        desk.run("drawn d edge 1 from 1/2", "drawn e edge 2 from 1/2", "claim c true", "page p a 0 1", "style s row from 1/2", "claim h [ size 1 from 1/2 <= 0 or true 1 and 0 <= 0 ]")
        for line, error in (
            ("most x y z", NoThing("y")), ("most x d z", NoThing("z")), ("most x c z", Unlike("c")), ("most x y c", NoThing("y")), ("most x d c", Unlike("c")),
            ("most x y z w", BadLine(4)), ("most x y", BadLine(3)), ("most x y Z", BadLine(3)), ("side x s p zz left", Unlike("s")), ("side x p d zz left", Unlike("d")),
            ("side x p s zz left", NoBox("zz")), ("side x p s zz top", BadLine(5)), ("side x q s a top", BadLine(5)), ("side x p zz a left", NoThing("zz")),
            ("at p 0 0", Unlike("p")), ("at s 1 0", Unlike("s")), ("at d 0 0", BadZoom(Ratio(0))), ("at y 0 0", NoThing("y")), ("at d 1", BadLine(3)),
            ("pixels p s 0 0", BadZoom(Ratio(0))), ("pixels s p 0 0", Unlike("s")), ("row from 1/2 0", BadNumber(0)), (f"row from 1/2 {10 ** 30 + 1}", BadNumber(10 ** 30 + 1)),
            ("row from 0 3", BadLine(2)), ("row from 1/2 1/2", BadLine(3)), ("row from 1/2 3 4", BadLine(4)), ("seen", BadLine(1)), ("seen 1", BadLine(2)),
            ("seen 1 2 3", BadLine(4)), ("seen 1 2 3 x", BadLine(4)), ("seen" + " 1 2" * 41, TooMany("sights", 40)), ("greatest d", BadDrawn("scroll")),
            ("greatest c", Unlike("c")), ("share h", BadClaim("true")), ("zooms h every", BadClaim("true")), ("zooms c always", BadLine(2)), ("zooms c", BadLine(2)),
            ("zooms c every some", BadLine(3)), ("drawn self 1", BadLine(1)), ("drawn way 1", BadLine(1)), ("drawn x", BadLine(2)), ("drawn x edge 1", BadLine(4)),
            ("drawn x edge 1 from 1/2 edge", BadLine(6)), ("drawn x ( true 1 and 0 | 2 )", BadDrawn("true")), ("drawn x 0 + 1", BadLine(4)),
            ("drawn x edge 2 from 1/2 + edge 1 from 1/2", BadLine(11)), ("drawn x true -1 and 0", BadLine(6)), ("page x a 0 1 ; a 1 1", Taken("a")), ("page x a 0", BadLine(4)),
            ("page x a 0 -1", BadLine(4)), ("claim x edge 1 from 1/2 <= 0", BadClaim("scroll")), ("style x rows", BadLine(2)), ("forget x", NoThing("x")),
            ("forget self", BadLine(1)), ("forget", BadLine(1)), ("show y", NoThing("y")), ("undo undo", BadLine(1)), ("undo ", BadLine(1)), ("", BadLine(0)),
            ("say d", BadLine(0)), (" show d", BadLine(0)), ("and x c d", Unlike("d")), ("and x d y", Unlike("d")), ("not x d", Unlike("d")), ("sum x d 1/2 e", BadLine(3)),
            ("sum x c y e", BadLine(3)), ("sum x c 1 y", Unlike("c")), ("alike p p s", Unlike("p")), ("alike p s q", NoThing("q")), ("below x d p", Unlike("p")),
            ("equal x d d d", BadLine(4)), ("below x d s", Unlike("s")), ("most x d h", Unlike("h")),
        ):
            before = state_of(desk)
            for work in (desk.say, desk, desk.run):
                self.refuses(error, work, line)
            self.assertEqual(state_of(desk), before)
        for value in any_values():
            if not isinstance(value, str):
                self.refuses(BadLine(0), desk.say, value)
                self.refuses(BadLine(0), desk, value)
                self.refuses(BadLine(0), desk.run, "forget d", value)
        self.assertEqual((desk.say(line="show d"), desk(line="show d")), ("drawn edge 1 from 1/2",) * 2)
        boxes = " ; ".join([letter + "x 0 1" for letter in "abcdefghijklmnopqrstuvwxy"])
        self.refuses(TooMany("boxes", 24), desk.say, "page x " + boxes)

    def test_sides_are_drawn_ahead_of_their_box(self):
        names = [one + other for one in "abcd" for other in "abcdef"]
        desk = Desk()
        desk.say("page p " + " ( ".join([name + " 1 9" for name in names]) + " )" * 23)
        desk.say("style s edges from 1/2 from 1/2" + "".join([f" ; {name} within from 1/{at + 3}" for at, name in enumerate(names)]))
        for line in ("side x p s aa left", "side x p s zz left", "pixels p s 1 0", "pixels p s 0 0", "alike p s s"):
            self.refuses(TooMany("terms", 24), desk.say, line)

    def test_runs(self):
        for seed in range(60):
            source = random.Random(seed)
            desk, model = Desk(), Model()
            lines = []
            while len(lines) < 12:
                line = any_line(source, model)
                try:
                    model.say(line)
                    lines.append(line)
                except SnapError:
                    continue
            bad = source.choice(("show zzz", "undo x", 5, None, "greatest", "drawn x ( true 1 and 0 | 2 )"))
            begin = source.randint(0, 12)
            for line in lines[:begin]:
                desk.say(line)
            before = state_of(desk)
            at = source.randint(begin, 12)
            with self.assertRaises(SnapError) as caught:
                desk.run(*lines[begin:at], bad, *lines[at:])
            self.assertIn(type(caught.exception), (NoThing, BadLine, BadDrawn))
            self.assertEqual(state_of(desk), before)
            answers = desk.run(*lines[begin:])
            self.assertTrue(type(answers) is list and len(answers) == 12 - begin)
            self.same_desk(desk, model)
            for _ in range(desk.changes + 1):
                self.assertEqual(desk.say("undo"), model.say("undo"))
                self.same_desk(desk, model)
        self.assertEqual((Desk().run(), Desk().run("undo")), ([], ["nothing"]))

    def test_undo_within_runs(self):
        desk = Desk()
        desk.run("drawn a 1", "drawn b 2")
        self.refuses(NoThing("b"), desk.run, "undo", "undo", "drawn c 3", "show b")
        self.assertEqual((list(desk), desk.changes), (["a", "b"], 2))
        self.assertEqual(desk.run("undo", "show a", "undo", "undo"), ["ok", "drawn 1", "ok", "nothing"])
        self.assertEqual((list(desk), desk.changes), ([], 0))

    def test_lines_that_can_be_taken_back(self):
        desk = Desk()
        desk.run("drawn a 1", "drawn a 1", "show a", "at a 1 0", "drawn a 2", "forget a", "drawn b 3")
        self.assertEqual(desk.changes, 5)
        for names, shown in ((["b"], None), ([], None), (["a"], "drawn 2"), (["a"], "drawn 1"), (["a"], "drawn 1")):
            self.assertEqual(list(desk), names)
            if shown:
                self.assertEqual(desk.say("show a"), shown)
            self.assertEqual(desk.say("undo"), "ok")
        self.assertEqual((list(desk), desk.changes, desk.say("undo")), ([], 0, "nothing"))

    def test_names(self):
        desk = Desk()
        self.assertTrue(bool(desk) and len(desk) == 0 and list(desk) == [] and desk.lines() == [] and desk.changes == 0)
        desk.run("page zz a 0 3", "style b row from 1/2", "drawn a 1/2", "claim m true")
        self.assertEqual((list(desk), len(desk), bool(desk)), (["a", "b", "m", "zz"], 4, True))
        self.assertEqual(desk.lines(), ["drawn a 1/2", "style b row from 1/2", "claim m true", "page zz a 0 3"])
        self.assertEqual((desk["zz"], desk["b"], desk["m"]), (Page(Box("a", 0, 3)), Style(InRow()), Claim.of(True)))
        for value in any_values():
            self.assertIs(value in desk, value == "a" and isinstance(value, str))
            if not value == "a" or not isinstance(value, str):
                self.refuses(NoThing(value), lambda: desk[value])
        desk.lines().clear()
        self.assertEqual(len(desk.lines()), 4)
        with self.assertRaises(AttributeError):
            desk.changes = 3

    def test_equal_desks(self):
        one, other = Desk(), Desk()
        self.assertTrue(one == other and one == one)
        one.run("drawn a 1", "drawn b 2", "undo")
        self.assertFalse(one == other or other == one)
        other.say("drawn a 1")
        self.assertTrue(one == other and one.changes == 1)
        other.run("drawn b 3", "forget b")
        self.assertTrue(one == other and other.changes == 3)
        for line in ("drawn a 2", "drawn b 1", "claim a true", "forget a"):
            third = Desk()
            third.run("drawn a 1", line)
            self.assertFalse(one == third or third == one)
        for value in any_values():
            self.assertFalse(one == value)
        self.assertTrue(Desk() == Desk())

    def test_things_as_drawn(self):
        desk = Desk()
        desk.run("page p a 0 3 ; b 3 3", "style s row from 1/2", "style t edges from 1/2 from 1/2", "side l p s b right", "side m p t b right", "sum d l -1 m",
                 "below k l m", "equal e l m", "most g l m", "not n g", "and u k g", "or v k n", "sum z l 0 m")
        page = Page(Box("a", 0, 3), Box("b", 3, 3))
        row, edges = draw(page, Style(InRow())), draw(page, Style(ByEdges()))
        one, other = row.right("b"), edges.right("b")
        for name, thing in (("l", one), ("m", other), ("d", one - other), ("k", one.below(other)), ("e", one.equals(other)), ("g", one.at_most(other)),
                            ("n", ~one.at_most(other)), ("u", one.below(other) & one.at_most(other)), ("v", one.below(other) | ~one.at_most(other)), ("z", one)):
            self.assertEqual(desk[name], thing)
        found = alike(row, edges)
        self.assertEqual(desk.say("alike p s t"), f"parted {found.name} {found.side} {found.zoom} {found.scroll}")
        self.assertEqual(desk.say("greatest d"), bound_text(greatest(one - other)))
        self.assertEqual(desk.say(f"seen {LONG} 5"), "seen {0.zoom} {0.scroll}".format(seen(Sight(LONG, 5))))
        self.assertEqual((desk["p"], str(desk["s"])), (page, "row from 1/2"))
        self.assertFalse(Style(Within()) == desk["s"])


if __name__ == "__main__":
    unittest.main()
