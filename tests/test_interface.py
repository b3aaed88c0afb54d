"""The names of the interface: where they are defined, their parameters, and the methods of classes themselves."""

import importlib
import inspect
import unittest

# For each file its functions and classes with their parameters; methods stand below their class.
FUNCTIONS = {
    "ratios": ("is_integer(value)", "is_number(value)"),
    "still": ("zooms_at(claim, scroll=0)",),
    "views": ("turn_of(claim)", "cuts(claim)", "judge(claim)", "holds_at(claim, zoom)", "zooms_always(claim)", "zooms_ever(claim)", "share(claim)"),
    "look_views": ("shows_judge(claim, value)",),
    "most": ("greatest(drawn)", "least(drawn)", "limits(drawn, zoom, scroll)", "stays(drawn)"),
    "look_most": ("shows_greatest(drawn, value)", "shows_least(drawn, value)"),
    "ways": ("draw(page, style)",),
    "compared": ("alike(one, other)", "differences(one, other)", "row_range(rounding, n)", "moved_row_range(rounding, n)"),
    "look_compared": ("shows_alike(one, other, value)",),
    "sights": ("seen(*sights)", "zoom_range(*sights)", "scroll_range(zoom, *sights)", "still_range(scroll, *sights)", "most_seen(scroll, *sights)"),
    "look_sights": ("shows_seen(sights, value)", "shows_most_seen(scroll, sights, value)"),
    "choices": ("offered(claim, zooms)", "best_rounding(make, *roundings)", "tightest(make, low, high)", "follows(one, other)", "spared(*claims)"),
    "look_choices": ("shows_tight(make, low, high, value)",),
    "texts": ("screen_text(screen)",),
    "reader": ("read_screen(text)",),
}
CLASSES = {
    "ratios.Ratio(over, under=1)": "of(value) highest(values) lowest(values) common(values) divided(other) floor() ceiling() read(text) "
                                   "__add__ __sub__ __mul__ __neg__ __floordiv__ __mod__ __lt__ __le__ __gt__ __ge__ __bool__ __eq__ __str__",
    "roundings.Rounding(threshold, is_from=True)": "all_down() all_up() half_up() half_down() before(number) behind(number) is_step(number) places(pixel) "
                                                   "read(text) __call__(number) __invert__ __eq__ __str__",
    "drawn.Drawn": "edge(unit, rounding=None) size(unit, rounding=None) true(unit, moves=0) plain(number) read(text) __call__(zoom, scroll=0) "
                   "at_most(other) below(other) at_least(other) above(other) equals(other) __add__ __sub__ __neg__ __or__ __and__ __mul__ __eq__ __str__",
    "drawn.Claim": "of(truth) read(text) __call__(zoom, scroll=0) __and__ __or__ __invert__ __eq__ __str__",
    "zooms.Zooms(begin, turn, marks, is_first)": "everything() nothing() between(low, high, is_low=True, is_high=True) beyond(low, is_low=True) next(zoom) "
                                                 "nearest(zoom) stretches(upto) scaled(number) read(text) __or__ __and__ __sub__ __xor__ __invert__ "
                                                 "__contains__ __bool__ __eq__ __le__ __lt__ __ge__ __gt__ __iter__ __str__",
    "views.Verdict": "", "views.Always(marks, turns)": "", "views.Broken(zoom, scroll)": "__bool__",
    "most.Endless(gain)": "__bool__", "most.Most(number, is_reached, zoom, scroll, marks, turns)": "",
    "pages.Box(name, offset, units, *inner)": "read(text) __eq__ __str__",
    "pages.Page(*boxes)": "box(name) around(name) within(name) some(first, last) with_box(box, name=None) read(text) __iter__ __len__ __contains__ "
                          "__getitem__ __sub__ __mul__ __eq__ __str__",
    "ways.Way": "read(text)", "ways.ByEdges(begins=None, ends=None)": "__eq__ __str__", "ways.Within(rounding=None)": "__eq__ __str__",
    "ways.Carried(rounding=None)": "__eq__ __str__", "ways.InRow(rounding=None)": "__eq__ __str__", "ways.AtLeast(way, pixels)": "__eq__ __str__",
    "ways.Style(way, **by_name)": "with_way(name, way) without(name) read(text) __getitem__ __contains__ __len__ __iter__ __bool__ __or__ __eq__ __str__",
    "ways.Drawing": "left(name) right(name) width(name) gap(one, other) drift(name, side='left') apart(one, other) inside(one, other) "
                    "__call__(zoom, scroll=0) __getitem__ __iter__ __len__ __contains__ __eq__",
    "compared.Alike(papers)": "__eq__", "compared.Parted(name, side, zoom, scroll)": "__eq__ __bool__",
    "sights.Sight(unit, pixel, rounding=None, moves=True)": "__call__(zoom, scroll=0) __eq__", "sights.Seen(zoom, scroll)": "__eq__",
    "sights.Unseen(rows)": "__eq__ __bool__", "sights.Agreed(zoom, indexes, marks)": "__eq__", "choices.Tight(number, always, broken)": "__eq__",
    "screens.Screen(page, style, zoom=1, scroll=0)": "set_page(page) set_style(style) set_zoom(zoom) set_scroll(scroll) set_view(zoom, scroll) shown() "
                                                     "guard(name, rule) unguard(name) zoom_to(zoom) undo() trial() tried(work) attempt(work) twin() "
                                                     "__getitem__ __contains__ __len__ __iter__ __eq__",
    "desk.Desk()": "say(line) run(*lines) lines() __call__(line) __getitem__ __contains__ __len__ __iter__ __bool__ __eq__",
}
PROPERTIES = {
    "drawn.Claim": ("atoms", "terms"), "zooms.Zooms": ("first", "holds_from", "share"), "pages.Page": ("names",), "ways.Drawing": ("names",),
    "screens.Screen": ("page_now", "style_now", "zoom_now", "scroll_now", "guards", "moved", "history"), "desk.Desk": ("changes",),
}


def module_of(name):
    return importlib.import_module("allzooms." + name)


def parameters(told, leaves_own=False):
    """The parameters of a function or class as they are written."""
    found = str(inspect.signature(told))
    return found.replace("(self, ", "(").replace("(self)", "()") if leaves_own else found


class InterfaceTest(unittest.TestCase):
    def test_functions(self):
        for name, rows in FUNCTIONS.items():
            for row in rows:
                told = vars(module_of(name))[row.split("(")[0]]
                self.assertTrue(inspect.isfunction(told))
                self.assertEqual((told.__module__, told.__name__ + parameters(told)), ("allzooms." + name, row))

    def test_classes(self):
        for row, methods in CLASSES.items():
            name, begin, rest = row.partition("(")
            file, _, kind = name.partition(".")
            told = vars(module_of(file))[kind]
            self.assertEqual((told.__module__, told.__name__), ("allzooms." + file, kind))
            if begin:
                self.assertEqual(parameters(told.__init__, True), begin + rest)
            self.check_methods(told, methods.replace(", ", ",").split())

    def check_methods(self, told, methods):
        for row in methods:
            name, begin, rest = row.partition("(")
            self.assertIn(name, vars(told), told)
            if begin:
                found = parameters(getattr(told, name), not isinstance(vars(told)[name], (staticmethod, classmethod)))
                self.assertEqual(found.replace(", ", ","), begin + rest, (told, name))

    def test_properties(self):
        for row, names in PROPERTIES.items():
            file, _, kind = row.partition(".")
            told = vars(module_of(file))[kind]
            for name in names:
                self.assertIsInstance(vars(told)[name], property)


if __name__ == "__main__":
    unittest.main()
