"""Heights of one post: a book for each, and ties between what is told there."""

from spiralsays.books import Book, take_book
from spiralsays.checks import is_list, is_within
from spiralsays.errors import BadBook, BadHeights, BadNumber, BadTie, NoHeight, TooMany
from spiralsays.ratios import Ratio, is_ratio, need_ratio
from spiralsays.rows import KINDS
from spiralsays.stems import Stem
from spiralsays.texts import read_whole

LAST_HEIGHT = 3
MOST_TIES = 12


class Tie:
    """The E at one less the E at other is 0, at least 0 or above 0."""

    def __init__(self, one, other, kind):
        if not is_within(one, 0, LAST_HEIGHT):
            raise BadTie("one")
        if not is_within(other, 0, LAST_HEIGHT) or other == one:
            raise BadTie("other")
        if not isinstance(kind, str) or kind not in KINDS:
            raise BadTie("kind")
        self.one = one
        self.other = other
        self.kind = kind

    def contrary(self):
        if self.kind == "zero":
            return (Tie(self.one, self.other, "above"), Tie(self.other, self.one, "above"))
        return (Tie(self.other, self.one, "above" if self.kind == "least" else "least"),)

    def __eq__(self, other):
        if not isinstance(other, Tie):
            return False
        return self.one == other.one and self.other == other.other and self.kind == other.kind

    def __str__(self):
        return f"{self.one} {self.other} {self.kind}"

    @classmethod
    def read(cls, text):
        return read_whole(text, take_tie)


class Heights:
    """Books, 1 to 4, numbered from 0, and ties, none to 12."""

    MOST = 4

    def __init__(self, books, ties=()):
        if not is_list(books) or len(books) == 0 or not all([isinstance(one, Book) for one in books]):
            raise BadBook("books")
        if not is_list(ties) or not all([isinstance(one, Tie) for one in ties]):
            raise BadTie("ties")
        for tie in ties:
            need_ends(tie, len(books))
        if len(books) > Heights.MOST:
            raise TooMany("heights", Heights.MOST)
        if len(ties) > MOST_TIES:
            raise TooMany("ties", MOST_TIES)
        self.books = tuple(books)
        self.ties = tuple(ties)

    def __len__(self):
        return len(self.books)

    def with_told(self, height, told):
        need_height(self, height)
        more = self.books[height].with_told(told)
        return Heights(self.books[:height] + (more,) + self.books[height + 1:], self.ties)

    def with_tie(self, tie):
        need_tie(tie, "tie")
        return Heights(self.books, self.ties + (tie,))

    def alone(self, height):
        need_height(self, height)
        return Heights((self.books[height],))

    def holds(self, turn, squares):
        """Whether a turn and an E for each height keep them."""
        here = need_ratio(turn, "turn")
        if not is_list(squares) or len(squares) != len(self.books) or not all([is_ratio(one) for one in squares]):
            raise BadNumber("squares")
        area = here * here
        if not all([area.is_below(one) for one in squares]):
            return False
        if not all([Stem(here, one) in book for one, book in zip(squares, self.books)]):
            return False
        return all([is_kept_tie(tie, squares) for tie in self.ties])

    def __eq__(self, other):
        return isinstance(other, Heights) and self.books == other.books and self.ties == other.ties

    def __str__(self):
        if len(self.ties) == 0:
            return str(text_of_books(self.books))
        return f"{text_of_books(self.books)} ; {text_of_ties(self.ties)}"

    @classmethod
    def read(cls, text):
        return read_whole(text, take_heights)


def text_of_books(books):
    return " | ".join([str(one) for one in books])


def text_of_ties(ties):
    return " , ".join([str(one) for one in ties])


def is_kept_tie(tie, squares):
    sign = (Ratio.of(squares[tie.one]) - squares[tie.other]).sign
    if tie.kind == "zero":
        return sign == 0
    return sign > 0 or (sign == 0 and tie.kind == "least")


def need_ends(tie, many):
    """Both numbers of a tie are those of heights, of so many."""
    for number in (tie.one, tie.other):
        if number >= many:
            raise NoHeight(number)


def need_tie(value, part):
    if not isinstance(value, Tie):
        raise BadTie(part)


def need_heights(value, part):
    if not isinstance(value, Heights):
        raise BadHeights(part)


def need_height(heights, value):
    if not is_within(value, 0, len(heights) - 1):
        raise NoHeight(value)


def take_tie(words):
    return take_tie_up_to(words, LAST_HEIGHT)


def take_tie_up_to(words, last):
    """A tie of heights from 0 to the last one."""
    one = words.integer()
    if not is_within(one, 0, last):
        words.refuse()
    other = words.integer()
    if not is_within(other, 0, last) or other == one:
        words.refuse()
    kind = words.take()
    if kind not in KINDS:
        words.refuse()
    return Tie(one, other, kind)


def take_heights(words):
    books = [take_book(words)]
    while words.has_next("|") and len(books) < Heights.MOST:
        words.take()
        books.append(take_book(words))
    ties = []
    # Behind one book alone the word may stand, too: it is the numbers of a tie that are none of its heights.
    if words.has_next(";"):
        words.take()
        ties.append(take_tie_up_to(words, len(books) - 1))
        while words.has_next(",") and len(ties) < MOST_TIES:
            words.take()
            ties.append(take_tie_up_to(words, len(books) - 1))
    return Heights(books, ties)
