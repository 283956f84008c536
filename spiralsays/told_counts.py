"""Books with a window and counted things: whether they can be, and what holds over them."""

from spiralsays.books import need_book
from spiralsays.cases import cases_asked, is_thing, need_asked, told_of_cases, word_of_cases
from spiralsays.cuts import need_few_cuts, need_things
from spiralsays.errors import BadCounted, Impossible, TooMany
from spiralsays.fits import fit_of
from spiralsays.papers import Denial, Paper
from spiralsays.windows import need_window

MOST_THINGS = 6


class CountBook:
    """A book, a window, and the counted things seen there."""

    def __init__(self, book, window, things):
        need_book(book, "book")
        need_window(window, "window")
        need_things(things)
        if len(things) == 0:
            raise BadCounted("things")
        if len(things) > MOST_THINGS:
            raise TooMany("things", MOST_THINGS)
        self.book = book
        self.window = window
        self.things = tuple(things)

    def __contains__(self, x):
        """Whether any value is a stem that keeps it."""
        return x in self.book and x in self.window and all([thing.holds(x) for thing in self.things])

    def __eq__(self, other):
        if not isinstance(other, CountBook):
            return False
        return self.book == other.book and self.window == other.window and self.things == other.things


class KeptCounts(Paper):
    def __init__(self, stem):
        super().__init__("keptcounts", stem)
        self.stem = self.parts[0]


class NoStretch(Denial):
    """A OneStep for each case."""

    def __init__(self, papers):
        super().__init__("nostretch", papers)
        self.papers = self.parts[0]


def need_count_book(value, part):
    if not isinstance(value, CountBook):
        raise BadCounted(part)


def fit_counts(count_book):
    need_count_book(count_book, "count_book")
    need_few_cuts(count_book.things, count_book.window)
    papers = []
    for told in told_of_cases(count_book.book, count_book.window, count_book.things):
        paper = fit_of(told)
        if paper:
            return KeptCounts(paper.stem)
        papers.append(paper)
    return NoStretch(papers)


def word_counts(count_book, saying):
    need_count_book(count_book, "count_book")
    need_asked(saying, "saying")
    asked_too = (saying,) if is_thing(saying) else ()
    need_few_cuts(count_book.things + asked_too, count_book.window)
    found = fit_counts(count_book)
    if not found:
        raise Impossible(found)
    return word_of_cases(cases_asked(count_book.book, count_book.window, count_book.things, saying), saying)
