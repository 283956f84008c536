"""What to measure at the least price; what would be news."""

from spiralsays.books import need_book
from spiralsays.checks import is_list, is_within
from spiralsays.errors import BadNumber, BadTold, TooMany, Unlike
from spiralsays.fits import need_possible
from spiralsays.measures import enough_of, need_measurable, need_rows
from spiralsays.number_sets import sets_up_to
from spiralsays.papers import Paper
from spiralsays.rows import Told
from spiralsays.sayings import need_saying
from spiralsays.words import Always, Nowhere, word_among

MOST_OFFERED = 40


class Cheapest(Paper):
    """Numbers of rows, the sum of their prices, and the EnoughRows of these rows."""

    def __init__(self, numbers, price, paper):
        super().__init__("cheapest", numbers, price, paper)
        self.numbers, self.price, self.paper = self.parts


class Follows(Paper):
    """Pairs (number, paper): of the told ones that are always so, nowhere, both."""

    def __init__(self, always, nowhere, both):
        super().__init__("follows", always, nowhere, both)
        self.always, self.nowhere, self.both = self.parts


def cheapest(book, saying, rows, prices):
    need_priced(book, saying, rows, prices)
    need_measurable(book, rows)
    whole = enough_of(book.told, saying.told, rows)
    if not whole:
        return whole
    sets = [(price_of(numbers, prices), len(numbers), numbers) for numbers in sets_up_to(len(rows), len(rows))]
    for price, _, numbers in sorted(sets):
        paper = enough_of(book.told, saying.told, [rows[number] for number in numbers])
        if paper:
            return Cheapest(numbers, price, paper)
    return None


def need_priced(book, saying, rows, prices):
    need_book(book, "book")
    need_saying(saying, "saying")
    need_rows(rows)
    if not is_list(prices) or not all([is_within(one, 0, None) for one in prices]):
        raise BadNumber("prices")
    if len(prices) != len(rows):
        raise Unlike("prices")


def price_of(numbers, prices):
    return sum([prices[number] for number in numbers])


def offers(book, told):
    need_book(book, "book")
    need_tolds(told)
    need_possible(book)
    if len(told) > MOST_OFFERED:
        raise TooMany("told", MOST_OFFERED)
    always, nowhere, both = [], [], []
    for number, one in enumerate(told):
        paper = word_among(book.told, (one,))
        if isinstance(paper, Always):
            always.append((number, paper))
        elif isinstance(paper, Nowhere):
            nowhere.append((number, paper))
        else:
            both.append((number, paper))
    return Follows(always, nowhere, both)


def need_tolds(told):
    if not is_list(told) or not all([isinstance(one, Told) for one in told]):
        raise BadTold("told")
