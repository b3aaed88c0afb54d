"""The errors of the package: all stand directly below SnapError, and keep their arguments."""


class SnapError(ValueError):
    """The base of all errors of the package."""


class BadRatio(SnapError):
    def __init__(self, value):
        SnapError.__init__(self, f"no such number: {value!r}")
        self.value = value


class BadRounding(SnapError):
    def __init__(self, part):
        SnapError.__init__(self, f"no such rounding: {part!r}")
        self.part = part


class BadDrawn(SnapError):
    def __init__(self, part):
        SnapError.__init__(self, f"no such drawn thing: {part!r}")
        self.part = part


class BadClaim(SnapError):
    def __init__(self, part):
        SnapError.__init__(self, f"no such claim: {part!r}")
        self.part = part


class BadZooms(SnapError):
    def __init__(self, part):
        SnapError.__init__(self, f"no such set of zooms: {part!r}")
        self.part = part


class BadZoom(SnapError):
    def __init__(self, value):
        SnapError.__init__(self, f"no such zoom: {value!r}")
        self.value = value


class BadScroll(SnapError):
    def __init__(self, value):
        SnapError.__init__(self, f"no such scroll: {value!r}")
        self.value = value


class BadNumber(SnapError):
    def __init__(self, value):
        SnapError.__init__(self, f"a number that does not fit: {value!r}")
        self.value = value


class BadBox(SnapError):
    def __init__(self, part):
        SnapError.__init__(self, f"no such box: {part!r}")
        self.part = part


class BadPage(SnapError):
    def __init__(self, part):
        SnapError.__init__(self, f"no such page: {part!r}")
        self.part = part


class BadWay(SnapError):
    def __init__(self, part):
        SnapError.__init__(self, f"no such way: {part!r}")
        self.part = part


class BadStyle(SnapError):
    def __init__(self, part):
        SnapError.__init__(self, f"no such style: {part!r}")
        self.part = part


class BadDrawing(SnapError):
    def __init__(self, part):
        SnapError.__init__(self, f"no such drawing: {part!r}")
        self.part = part


class BadSight(SnapError):
    def __init__(self, at):
        SnapError.__init__(self, f"no such sight: {at!r}")
        self.at = at


class BadScreen(SnapError):
    def __init__(self, part):
        SnapError.__init__(self, f"no such screen: {part!r}")
        self.part = part


class BadText(SnapError):
    def __init__(self, line, word):
        SnapError.__init__(self, f"a word that cannot stand in a text: {line!r}, {word!r}")
        self.line = line
        self.word = word


class BadLine(SnapError):
    def __init__(self, word):
        SnapError.__init__(self, f"a word that cannot stand in a line: {word!r}")
        self.word = word


class NoBox(SnapError):
    def __init__(self, name):
        SnapError.__init__(self, f"no box of this name: {name!r}")
        self.name = name


class NoThing(SnapError):
    def __init__(self, name):
        SnapError.__init__(self, f"a name that stands for nothing: {name!r}")
        self.name = name


class NoZoom(SnapError):
    def __init__(self, zoom):
        SnapError.__init__(self, f"no zoom near this one: {zoom!r}")
        self.zoom = zoom


class Taken(SnapError):
    def __init__(self, name):
        SnapError.__init__(self, f"a name that is told twice: {name!r}")
        self.name = name


class Unlike(SnapError):
    def __init__(self, part):
        SnapError.__init__(self, f"things of unlike kinds: {part!r}")
        self.part = part


class Refused(SnapError):
    def __init__(self, name):
        SnapError.__init__(self, f"a guard refuses: {name!r}")
        self.name = name


class NoChange(SnapError):
    def __init__(self):
        SnapError.__init__(self, "no change to take back")


class TooMany(SnapError):
    def __init__(self, what, most):
        SnapError.__init__(self, f"more than the most: {what!r}, {most!r}")
        self.what = what
        self.most = most
