"""Reading a text from its beginning to its end."""

from failsalike.errors import InvalidText
from failsalike.values import is_name, is_number
from failsalike.valuetexts import integer_of

LETTERS = "abcdefghijklmnopqrstuvwxyz"
NUMERALS = "-0123456789"
# No number of the range has more of them.
MOST_NUMERALS = 14


class Reader:
    """A text, and how far it was read."""

    def __init__(self, text):
        self.text = text
        self.at = 0

    def skips(self, word):
        """Goes behind this word, if it is what comes next; tells whether it is."""
        if not self.text.startswith(word, self.at):
            return False
        self.at += len(word)
        return True

    def expect(self, word):
        """Goes behind this word, which must come next."""
        if not self.skips(word):
            raise InvalidText()

    def expect_end(self):
        """Nothing may come any more."""
        if self.at != len(self.text):
            raise InvalidText()

    def sees_number(self):
        """Whether what comes next may be a number."""
        return self.at < len(self.text) and self.text[self.at] in NUMERALS

    def take_name(self):
        """The name that must come next."""
        word = self.run_of(LETTERS)
        if not is_name(word):
            raise InvalidText()
        return word

    def take_number(self):
        """The number of the range that must come next."""
        word = self.run_of(NUMERALS)
        if len(word) > MOST_NUMERALS or not is_number(integer_of(word)):
            raise InvalidText()
        return integer_of(word)

    def run_of(self, letters):
        """As many of these letters as come next."""
        start = self.at
        while self.at < len(self.text) and self.text[self.at] in letters:
            self.at += 1
        return self.text[start : self.at]
