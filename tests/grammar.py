"""Which words can stand where, reckoned from the table of forms in the document by a chart.

A form is a list of symbols; a symbol is the name of other forms, of a kind of words, or a word itself.
"""

from fractions import Fraction

FORMS = {
    "DRAWN": [["FIRST"], ["DRAWN", "+", "MEMBER"], ["DRAWN", "-", "MEMBER"]],
    "FIRST": [["RATIO"], ["MEMBER"], ["-", "MEMBER"]],
    "MEMBER": [["BARE"], ["COUNT", "BARE"]],
    "BARE": [["edge", "N", "ROUNDING"], ["size", "N", "ROUNDING"], ["true", "N", "and", "N"],
             ["(", "GREATER", ")"], ["(", "LESSER", ")"]],
    "GREATER": [["DRAWN", "|", "DRAWN"], ["GREATER", "|", "DRAWN"]],
    "LESSER": [["DRAWN", "&", "DRAWN"], ["LESSER", "&", "DRAWN"]],
    "ROUNDING": [["from", "FROM"], ["above", "ABOVE"]],
    "CLAIM": [["DRAWN", "<=", "0"], ["DRAWN", "<", "0"], ["[", "BOTH", "]"], ["[", "EITHER", "]"],
              ["true"], ["false"]],
    "BOTH": [["CLAIM", "and", "CLAIM"], ["BOTH", "and", "CLAIM"]],
    "EITHER": [["CLAIM", "or", "CLAIM"], ["EITHER", "or", "CLAIM"]],
    "PAGE": [["-"], ["BOXES"]],
    "BOXES": [["BOX"], ["BOXES", ";", "BOX"]],
    "WAY": [["edges", "ROUNDING", "ROUNDING"], ["within", "ROUNDING"], ["carried", "ROUNDING"], ["row", "ROUNDING"],
            ["least", "FROM_ONE", "WAY"]],
    "STYLE": [["WAY"], ["STYLE", ";", "NAME", "WAY"]],
    "BOX": [["NAME", "N", "NATURAL"], ["NAME", "N", "NATURAL", "(", "BOXES", ")"]],
    "LINE": [["drawn", "NAME", "DRAWN"], ["claim", "NAME", "CLAIM"], ["page", "NAME", "PAGE"], ["style", "NAME", "STYLE"],
             ["side", "NAME", "NAME", "NAME", "NAME", "SIDE"], ["JOINT", "NAME", "NAME", "NAME"], ["not", "NAME", "NAME"],
             ["sum", "NAME", "NAME", "N", "NAME"], ["NAMED", "NAME"], ["at", "NAME", "NUMBER", "NUMBER"],
             ["pixels", "NAME", "NAME", "NUMBER", "NUMBER"], ["zooms", "NAME", "WHERE"], ["row", "ROUNDING", "N"],
             ["seen", "PAIRS"], ["undo"]],
    "JOINT": [["most"], ["below"], ["equal"], ["and"], ["or"], ["alike"]],
    "NAMED": [["forget"], ["judge"], ["share"], ["greatest"], ["least"], ["show"]],
    "SIDE": [["left"], ["right"]],
    "WHERE": [["NUMBER"], ["every"], ["some"]],
    "PAIRS": [["N", "N"], ["PAIRS", "N", "N"]],
}
COUNTED = ("edge", "size", "true", "(")


def as_written(word):
    """The number that a word tells just as it is written; None for another word."""
    try:
        told = Fraction(word)
    except (ValueError, ZeroDivisionError):
        return None
    return told if str(told) == word else None


def is_name(word):
    letters = 1 <= len(word) <= 8 and all("a" <= letter <= "z" for letter in word)
    return letters and word not in ("self", "way")


def fits(symbol, words, at, begin):
    """Whether a word can be of a kind, or is this word itself."""
    word = words[at]
    number = as_written(word)
    if symbol == "NAME":
        return is_name(word)
    if symbol not in ("RATIO", "NUMBER", "COUNT", "N", "NATURAL", "FROM_ONE", "FROM", "ABOVE"):
        return word == symbol
    if number is None or symbol == "NUMBER":
        return number is not None
    if symbol == "RATIO":
        # A whole number right ahead of a term or a choice is a count.
        return number.denominator > 1 or at + 1 == len(words) or words[at + 1] not in COUNTED
    if symbol == "FROM":
        return 0 < number <= 1
    if symbol == "ABOVE":
        return 0 <= number < 1
    least = {"COUNT": 2, "NATURAL": 0, "FROM_ONE": 1}.get(symbol, number)
    return number.denominator == 1 and number >= least


def first_wrong(goal, text):
    """The index of the first word that cannot stand; their number if one is missing; None if all is well."""
    words = text.split(" ")
    charts = [{(goal, tuple(form), 0, 0) for form in FORMS[goal]}]
    for at in range(len(words) + 1):
        close(charts, at)
        if at == len(words):
            break
        later = set()
        for head, form, dot, begin in charts[at]:
            if dot < len(form) and form[dot] not in FORMS and fits(form[dot], words, at, begin):
                later.add((head, form, dot + 1, begin))
        if not later:
            return at
        charts.append(later)
    is_whole = any(row[0] == goal and row[2] == len(row[1]) and row[3] == 0 for row in charts[-1])
    return None if is_whole else len(words)


def close(charts, at):
    """Puts into a chart what follows from its rows."""
    waiting = list(charts[at])
    while waiting:
        head, form, dot, begin = waiting.pop()
        found = []
        if dot < len(form) and form[dot] in FORMS:
            found = [(form[dot], tuple(inner), 0, at) for inner in FORMS[form[dot]]]
        elif dot == len(form):
            found = [(row[0], row[1], row[2] + 1, row[3]) for row in charts[begin]
                     if row[2] < len(row[1]) and row[1][row[2]] == head]
        for row in found:
            if row not in charts[at]:
                charts[at].add(row)
                waiting.append(row)


def mutated(source, text, vocabulary):
    """A text with a word left out, put in, exchanged, doubled, or with two changes."""
    words = text.split(" ")
    for _ in range(source.choice((1, 1, 1, 2))):
        at = source.randrange(len(words))
        kind = source.choice(("out", "in", "exchange", "double", "swap", "end"))
        if kind == "out" and len(words) > 1:
            del words[at]
        elif kind == "in":
            words.insert(at, source.choice(vocabulary))
        elif kind == "exchange":
            words[at] = source.choice(vocabulary)
        elif kind == "double":
            words.insert(at, words[at])
        elif kind == "swap":
            other = source.randrange(len(words))
            words[at], words[other] = words[other], words[at]
        else:
            words = words[:at + 1]
    return " ".join(words)
