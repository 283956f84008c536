"""The changing lines of a desk: each is read word by word, and tells what comes of it."""

from spiralsays.books import Book
from spiralsays.carried import carried_book
from spiralsays.desk_words import joined_words, take_from_zero, take_kept, take_name, take_name_of, take_new_name
from spiralsays.heights import take_tie_up_to
from spiralsays.reader import take_value
from spiralsays.sayings import take_saying
from spiralsays.strikes import Struck, strikes


class Deed:
    """The answer of a changing line; the name that it changes, None for none; its new value in a tuple, () for none."""

    def __init__(self, answer, name, now):
        self.answer = answer
        self.name = name
        self.now = now


def keep_line(words, kept):
    name = take_new_name(words)
    value = take_value(words)
    words.end()
    return Deed("kept", name, (value,))


def see_line(words, kept):
    name = take_name_of(words, kept, ("book",))
    saying = take_saying(words)
    words.end()
    more = kept[name].joined(Book(saying.told))
    return Deed(joined_words(list(range(len(kept[name]), len(more)))), name, (more,))


def drop_line(words, kept):
    name = take_name_of(words, kept, ("book",))
    number = take_from_zero(words, len(kept[name]))
    words.end()
    return Deed("dropped", name, (kept[name].without(number),))


def tie_line(words, kept):
    name = take_name_of(words, kept, ("heights",))
    tie = take_tie_up_to(words, len(kept[name]) - 1)
    words.end()
    return Deed("tied", name, (kept[name].with_tie(tie),))


def carry_line(words, kept):
    name = take_new_name(words)
    book = take_kept(words, kept, ("book",))
    table = take_kept(words, kept, ("table",))
    words.end()
    return Deed("carried", name, (carried_book(book, table),))


def left_line(words, kept):
    name = take_new_name(words)
    book = take_kept(words, kept, ("book",))
    most = take_from_zero(words, None)
    words.end()
    paper = strikes(book, most)
    return Deed("left", name, (paper,)) if isinstance(paper, Struck) else Deed("stuck", None, ())


def forget_line(words, kept):
    name = take_name(words, kept)
    words.end()
    return Deed("forgotten", name, ())


CHANGES = {
    "keep": keep_line,
    "see": see_line,
    "drop": drop_line,
    "tie": tie_line,
    "carry": carry_line,
    "left": left_line,
    "forget": forget_line,
}
