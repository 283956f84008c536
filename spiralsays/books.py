"""Books: lists of told ones."""

from spiralsays.checks import is_list, is_within
from spiralsays.errors import BadBook, NoTold, TooMany
from spiralsays.rows import Told, need_told, take_told
from spiralsays.stems import Stem
from spiralsays.texts import read_whole


class Book:
    """Told ones, none to 40, numbered from 0."""

    MOST = 40

    def __init__(self, told=()):
        if not is_list(told) or not all([isinstance(one, Told) for one in told]):
            raise BadBook("told")
        if len(told) > Book.MOST:
            raise TooMany("told", Book.MOST)
        self.told = tuple(told)

    def __len__(self):
        return len(self.told)

    def __iter__(self):
        return iter(self.told)

    def __contains__(self, x):
        """Whether any value is a stem that keeps the book."""
        return isinstance(x, Stem) and all([one.holds(x) for one in self.told])

    def with_told(self, told):
        need_told(told, "told")
        return Book(self.told + (told,))

    def without(self, number):
        if not is_within(number, 0, len(self.told) - 1):
            raise NoTold(number)
        return Book(self.told[:number] + self.told[number + 1:])

    def joined(self, other):
        need_book(other, "other")
        return Book(self.told + other.told)

    def __eq__(self, other):
        return isinstance(other, Book) and self.told == other.told

    def __str__(self):
        if len(self.told) == 0:
            return "-"
        return " , ".join([str(one) for one in self.told])

    @classmethod
    def read(cls, text):
        return read_whole(text, take_book)


def need_book(value, part):
    if not isinstance(value, Book):
        raise BadBook(part)


def take_book(words):
    if words.has_next("-"):
        words.take()
        return Book()
    told = [take_told(words)]
    while words.has_next(",") and len(told) < Book.MOST:
        words.take()
        told.append(take_told(words))
    return Book(told)
