"""Several sayings: the word of each, and all of them together."""

from spiralsays.books import need_book
from spiralsays.checks import is_list
from spiralsays.errors import BadSaying, TooMany
from spiralsays.fits import need_possible
from spiralsays.sayings import Rows, Saying
from spiralsays.words import word_among

MOST_SAYINGS = 60


def words_of(book, sayings):
    need_book(book, "book")
    need_sayings(sayings)
    need_possible(book)
    if len(sayings) > MOST_SAYINGS:
        raise TooMany("sayings", MOST_SAYINGS)
    return tuple([word_among(book.told, saying.told) for saying in sayings])


def together(sayings):
    need_sayings(sayings)
    if len(sayings) == 0:
        raise BadSaying("sayings")
    return Rows([told for saying in sayings for told in saying.told])


def need_sayings(sayings):
    if not is_list(sayings) or not all([isinstance(one, Saying) for one in sayings]):
        raise BadSaying("sayings")
