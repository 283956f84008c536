"""The word of a saying over a possible book: always, nowhere or both."""

from spiralsays.books import need_book
from spiralsays.fits import OneStep, fit_of, need_possible
from spiralsays.papers import Denial, Paper
from spiralsays.ratios import Ratio
from spiralsays.sayings import need_saying


class Always(Paper):
    """For each told one of the saying OneSteps with its contraries put in."""

    def __init__(self, papers):
        super().__init__("always", papers)
        self.papers = self.parts[0]


class Nowhere(Denial):
    """The OneStep with the saying's told ones put in."""

    def __init__(self, paper):
        super().__init__("nowhere", paper)
        self.paper = self.parts[0]


class Both(Paper):
    """Two stems: the first keeps the saying, the second does not."""

    def __init__(self, kept, broken):
        super().__init__("both", kept, broken)
        self.kept, self.broken = self.parts


class BookGround:
    """Told ones of which something is asked: what is put in stands behind them."""

    def __init__(self, told):
        self.told = told

    def fit_with(self, more):
        return fit_of(self.told + more)

    def held(self, paper):
        """What of a Kept stands in a Both."""
        return paper.stem

    def widened(self, paper, many):
        """What denies them denies them with so many more put in."""
        return OneStep(paper.weights + (Ratio(0),) * many, paper.step, paper.times, paper.rest)


def word_of(book, saying):
    need_book(book, "book")
    need_saying(saying, "saying")
    need_possible(book)
    return word_among(book.told, saying.told)


def word_among(told, asked):
    """The word of what is asked, told ones that hold together, over told ones that some stem keeps."""
    return word_over(BookGround(told), asked)


def word_over(ground, asked):
    """The word of what is asked, told ones or ties that hold together, over a ground that is possible."""
    lines = []
    for one in asked:
        line = [ground.fit_with((contrary,)) for contrary in one.contrary()]
        for paper in line:
            if paper:
                whole = ground.fit_with(asked)
                return Both(ground.held(whole), ground.held(paper)) if whole else Nowhere(whole)
        lines.append(line)
    return Always(lines)
