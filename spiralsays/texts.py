"""Reading texts: words with single blanks between, one behind another."""

from spiralsays.checks import DIGITS
from spiralsays.errors import BadText

MOST_DIGITS = 60


def integer_of(word):
    """The integer that is written so, None if there is none."""
    digits = word.removeprefix("-")
    if not 1 <= len(digits) <= MOST_DIGITS or not all([sign in DIGITS for sign in digits]):
        return None
    value = int(word)
    # Written back it shows zeros ahead, and the minus of a 0.
    return value if str(value) == word else None


class Words:
    """The words of a text up to the one where it ends, and how many of them are read."""

    def __init__(self, words, done, last):
        self.words = words
        self.done = done
        self.last = last

    def is_over(self):
        return self.done == self.last

    def up_to(self, word):
        """The words from here to the next such word, it left out, or to the end: to be read by themselves."""
        last = self.done
        while last < self.last and self.words[last] != word:
            last += 1
        return Words(self.words, self.done, last)

    def skip_to(self, other):
        """What was read of the words from here is read here, too."""
        self.done = other.done

    def has_next(self, word):
        return not self.is_over() and self.words[self.done] == word

    def take(self):
        if self.is_over():
            raise BadText(0, self.done)
        word = self.words[self.done]
        self.done += 1
        return word

    def refuse(self):
        """The word that was taken last cannot stand."""
        raise BadText(0, self.done - 1)

    def integer(self):
        value = integer_of(self.take())
        if value is None:
            self.refuse()
        return value

    def end(self):
        if not self.is_over():
            raise BadText(0, self.done)


def words_in(text):
    """The words of any value that is a text."""
    if not isinstance(text, str):
        raise BadText(0, 0)
    words = text.split(" ")
    return Words(words, 0, len(words))


def read_whole(text, take):
    """What take makes of the words of a text, all of them."""
    words = words_in(text)
    value = take(words)
    words.end()
    return value
