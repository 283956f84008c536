"""The word of a saying over a possible book: always, nowhere or both."""

from spiralsays.books import need_book
from spiralsays.fits import fit_of, need_possible
from spiralsays.papers import Denial, Paper
from spiralsays.sayings import need_saying


class Always(Paper):
    """For each told one of the saying OneSteps with its contraries put in."""

    def __init__(self, papers):
        super().__init__("always", papers)
        self.papers = self.parts[0]


class Nowhere(Denial):
    """The OneStep with the saying's told ones put in."""

    def __init__(self, paper):
        super().__init__("nowhere", paper)
        self.paper = self.parts[0]


class Both(Paper):
    """Two stems: the first keeps the saying, the second does not."""

    def __init__(self, kept, broken):
        super().__init__("both", kept, broken)
        self.kept, self.broken = self.parts


def word_of(book, saying):
    need_book(book, "book")
    need_saying(saying, "saying")
    need_possible(book)
    return word_among(book.told, saying.told)


def word_among(told, asked):
    """The word of what is asked, told ones that hold together, over told ones that some stem keeps."""
    lines = []
    for one in asked:
        line = [fit_of(told + (contrary,)) for contrary in one.contrary()]
        for paper in line:
            if paper:
                return word_beside(told, asked, paper.stem)
        lines.append(line)
    return Always(lines)


def word_beside(told, asked, broken):
    """The word, where a stem is known that keeps the told ones and not what is asked."""
    found = fit_of(told + asked)
    return Both(found.stem, broken) if found else Nowhere(found)
