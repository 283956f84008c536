"""Which told ones to strike so that a book is possible."""

from spiralsays.books import need_book
from spiralsays.checks import need_within
from spiralsays.clashes import need_few_told
from spiralsays.fits import fit_of
from spiralsays.number_sets import sets_up_to, told_without
from spiralsays.papers import Denial, Paper

MOST_STRUCK = 2


class Struck(Paper):
    """Numbers of told ones, and a stem that keeps the book without these."""

    def __init__(self, numbers, stem):
        super().__init__("struck", numbers, stem)
        self.numbers, self.stem = self.parts


class NotStruck(Denial):
    """For each set of numbers the OneStep of the book without these."""

    def __init__(self, papers):
        super().__init__("notstruck", papers)
        self.papers = self.parts[0]


def strikes(book, most):
    need_book(book, "book")
    need_within(most, 0, MOST_STRUCK, "most")
    papers = []
    for numbers in sets_up_to(len(book), most):
        paper = fit_of(told_without(book.told, numbers))
        if paper:
            return Struck(numbers, paper.stem)
        # The first of all is the empty set: the book itself is impossible.
        need_few_told(book)
        papers.append(paper)
    return NotStruck(papers)
