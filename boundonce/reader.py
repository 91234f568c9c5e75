"""Reading texts from left to right, sign by sign."""

from boundonce.errors import InvalidText
from boundonce.names import LETTERS, MOST_LETTERS, is_name, is_value


class Reader:
    """A text and the place that is read next.

    What takes something moves behind it; what must be there and is not raises
    InvalidText. Nothing looks further ahead than it must, so that texts of any
    length are refused at their first fault.
    """

    def __init__(self, text):
        if not isinstance(text, str):
            raise InvalidText("a text is a string")
        self.text = text
        self.at = 0

    def sees(self, sign):
        """Return whether a sign stands next."""
        return self.text.startswith(sign, self.at)

    def takes(self, sign):
        """Take a sign if it stands next, and return whether it did."""
        if not self.sees(sign):
            return False
        self.at += len(sign)
        return True

    def must_take(self, sign):
        """Take a sign that must stand next."""
        if not self.takes(sign):
            raise InvalidText("a word or sign is missing")

    def take_word(self):
        """Take the letters that stand next, one more than a word has at most."""
        start = self.at
        end = start
        while end < len(self.text) and end - start <= MOST_LETTERS and self.text[end] in LETTERS:
            end += 1
        self.at = end
        return self.text[start:end]

    def take_name(self):
        """Take a name that must stand next."""
        word = self.take_word()
        if not is_name(word):
            raise InvalidText("a name is missing")
        return word

    def take_value(self):
        """Take a value in quotes that must stand next."""
        self.must_take("'")
        word = self.take_word()
        if not is_value(word):
            raise InvalidText("a value is missing")
        self.must_take("'")
        return word

    def must_end(self):
        """Refuse what stands behind the end of what was read."""
        if self.at != len(self.text):
            raise InvalidText("the text goes on behind its end")
