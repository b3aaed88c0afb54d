"""Words of texts: how a text is parted, and which words tell integers."""

from allzooms.errors import BadText

# Python itself reads no longer integers; no text that `str` writes has one.
MOST_DIGITS = 4000


def split_words(text):
    """The words of a text, parted at single spaces."""
    if not isinstance(text, str):
        raise BadText(0, 0)
    return text.split(" ")


def whole_number(word):
    """The integer that a word tells just as `str` writes it; None for another word."""
    digits = word.removeprefix("-")
    if not (digits.isascii() and digits.isdigit()) or len(digits) > MOST_DIGITS:
        return None
    if digits.startswith("0") and word != "0":
        return None
    return int(word)


class Words:
    """Words that are read one behind another, from a place on."""

    def __init__(self, words, at):
        self.words = words
        self.at = at

    def ahead(self, many=0):
        """The word here, or so many words ahead; an empty one behind the last."""
        at = self.at + many
        return self.words[at] if at < len(self.words) else ""

    def refuse(self):
        """The word here cannot stand here, or is missing."""
        raise BadText(0, self.at)

    def take(self, word):
        """Goes on behind a word that must stand here."""
        if self.ahead() != word:
            self.refuse()
        self.at += 1

    def integer(self):
        """Goes on behind an integer that must stand here, and returns it."""
        number = whole_number(self.ahead())
        if number is None:
            self.refuse()
        self.at += 1
        return number

    def is_more(self):
        """Whether any word stands here."""
        return self.at < len(self.words)

    def finish(self):
        """No word may stand here any more."""
        if self.is_more():
            self.refuse()
