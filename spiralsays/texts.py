"""Reading texts: words with single blanks between, one behind another."""

from spiralsays.checks import DIGITS
from spiralsays.errors import BadText

MOST_DIGITS = 60


def integer_of(word):
    """The integer that is written so, None if there is none."""
    digits = word.removeprefix("-")
    if not 1 <= len(digits) <= MOST_DIGITS or not all([sign in DIGITS for sign in digits]):
        return None
    value = int(word)
    # Written back it shows zeros ahead, and the minus of a 0.
    return value if str(value) == word else None


class Words:
    """The words of a text, and how many of them are read."""

    def __init__(self, text):
        if not isinstance(text, str):
            raise BadText(0, 0)
        self.words = text.split(" ")
        self.done = 0

    def is_over(self):
        return self.done == len(self.words)

    def has_next(self, word):
        return not self.is_over() and self.words[self.done] == word

    def take(self):
        if self.is_over():
            raise BadText(0, self.done)
        word = self.words[self.done]
        self.done += 1
        return word

    def refuse(self):
        """The word that was taken last cannot stand."""
        raise BadText(0, self.done - 1)

    def integer(self):
        value = integer_of(self.take())
        if value is None:
            self.refuse()
        return value

    def end(self):
        if not self.is_over():
            raise BadText(0, self.done)


def read_whole(text, take):
    """What take makes of the words of a text, all of them."""
    words = Words(text)
    value = take(words)
    words.end()
    return value
