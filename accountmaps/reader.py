"""What all readings share: a text that is gone through from the left."""

from accountmaps.checks import LETTERS, is_name
from accountmaps.errors import Unreadable

DIGITS = "0123456789"
# Nothing that has a text is more than 20 deep, a formula within a script 20 more.
DEEPEST = 60


def deepest(text):
    """How many brackets of a text stand open at once."""
    deep, most = 0, 0
    for sign in text:
        if sign in "([":
            deep = deep + 1
            most = max(most, deep)
        if sign in ")]":
            deep = deep - 1
    return most


class Reader:
    """A text that is gone through: all of it is unreadable where it is not what it must be."""

    def __init__(self, text):
        self.text = text
        self.place = 0
        self.need(deepest(text) <= DEEPEST)

    def need(self, holds):
        """Refuse the text if something does not hold."""
        if not holds:
            raise Unreadable(self.text)

    def stands(self, signs):
        """Whether some signs stand here."""
        return self.text.startswith(signs, self.place)

    def passes(self, signs):
        """Whether some signs stand here; then go past them."""
        found = self.stands(signs)
        if found:
            self.place = self.place + len(signs)
        return found

    def take(self, signs):
        """Go past some signs that must stand here."""
        self.need(self.passes(signs))

    def all_of(self, signs):
        """Go past all that stands here and is one of some signs, and return it."""
        start = self.place
        while self.place < len(self.text) and self.text[self.place] in signs:
            self.place = self.place + 1
        return self.text[start:self.place]

    def word(self):
        """Go past a name that must stand here, and return it."""
        found = self.all_of(LETTERS)
        self.need(is_name(found))
        return found

    def stands_integer(self):
        """Whether an integer begins here."""
        return any([self.stands(sign) for sign in DIGITS + "-"])

    def integer(self):
        """Go past an integer that must stand here, and return it."""
        below = self.passes("-")
        digits = self.all_of(DIGITS)
        self.need(1 <= len(digits) <= 9 and (digits == "0" or digits[0] != "0"))
        number = int(digits)
        self.need(number > 0 or not below)
        return -number if below else number

    def integer_from(self, least):
        """Go past an integer that must stand here and be no less than so great, and return it."""
        number = self.integer()
        self.need(number >= least)
        return number

    def end(self):
        """Refuse the text if anything is left of it."""
        self.need(self.place == len(self.text))
