"""What shows_word and shows_tight take, and what they do not."""

import unittest

from spiralsays.books import Book
from spiralsays.check_words import shows_tight, shows_word
from spiralsays.errors import BadNumber
from spiralsays.fits import Kept, OneStep, fit
from spiralsays.papers import Denial, Paper
from spiralsays.ratios import Ratio
from spiralsays.rows import Row, Told
from spiralsays.sayings import LeansLeft, LeansRight, Nearest, Rows, Shorter, StraightUp, TurnAbove, TurnIs
from spiralsays.stems import Stem
from spiralsays.steps import Step
from spiralsays.tight import Tight, tightest
from spiralsays.words import Always, Both, Nowhere, word_of
from helpers import ANY, check_raises, check_wrong, fraction, keeps, up_to
from papers_by_hand import bends, denies, is_word, other_ways, plain
from some_books import BLUNT, EVEN, FLAT
from some_sayings import A, B, C, SAYINGS
from test_tight import ASKED, SQUARED, TURN, at, next_ratio
from test_words import KNOWN, PAIRS

FEW = [(KNOWN, LeansRight(A)), (KNOWN, LeansLeft(A)), (KNOWN, Shorter(A, C)), (KNOWN, StraightUp(Step(8, 3))), (EVEN, Nearest(C, A)), (EVEN, LeansRight(B)),
       (Book(), Rows([Told.zero(Row(0, 0, 1))])), (FLAT, Rows([Told.least(Row(-1, 0, 1)), Told.above(Row(-2, 0, 3))]))]


class ShowsWord(unittest.TestCase):
    def test_what_is_returned(self):
        for book, saying in PAIRS:
            self.assertIs(shows_word(book, saying, word_of(book, saying)), True)

    def test_of_other_books_and_sayings(self):
        for number, (book, saying) in enumerate(FEW):
            paper = word_of(book, saying)
            for other_book, other in FEW + PAIRS[::40]:
                due = is_word(other_book.told, other.told, paper)
                self.assertIs(shows_word(other_book, other, paper), due, (number, str(other_book), str(other)))

    def test_bent(self):
        for book, saying in FEW:
            for bent in bends(word_of(book, saying)):
                self.assertIs(shows_word(book, saying, bent), is_word(book.told, saying.told, bent), (str(saying), bent.parts))

    def test_other_right_ones(self):
        for book, saying in FEW + PAIRS[::20]:
            paper = word_of(book, saying)
            if paper.word == "nowhere":
                for other in other_ways(paper.paper):
                    self.assertIs(shows_word(book, saying, Nowhere(other)), True)
            if paper.word == "always":
                lines = [[other_ways(one)[-1] for one in line] for line in paper.papers]
                self.assertIs(shows_word(book, saying, Always(lines)), True)
                self.assertIs(shows_word(book, saying, Always(tuple(map(tuple, lines)))), True)

    def test_other_stems(self):
        for stem in (Stem(Ratio(3, 8), Ratio(37, 256)), Stem(Ratio(3, 8), Ratio(145, 1024))):
            for other in (Stem(Ratio(3, 8), Ratio(3, 16)), Stem(Ratio(3, 8), Ratio(3, 20)), Stem(Ratio(3, 8), 100)):
                self.assertIs(shows_word(KNOWN, Shorter(A, C), Both(stem, other)), True)
                self.assertIs(shows_word(KNOWN, Shorter(A, C), Both(other, stem)), False)
        self.assertIs(shows_word(KNOWN, Shorter(A, C), Both(Stem(Ratio(2, 5), Ratio(17, 100)), Stem(Ratio(3, 8), 1))), False)

    def test_of_impossible_books(self):
        # By a sum of the book's own, weights 0 for what is put in; no Both is right.
        own = OneStep([1, 1, 0], A, 1, 0)
        self.assertIs(shows_word(BLUNT, LeansRight(A), Always([[own]])), True)
        self.assertIs(shows_word(BLUNT, LeansRight(A), Nowhere(own)), True)
        self.assertIs(shows_word(BLUNT, LeansRight(A), Both(Stem(Ratio(3, 8), 1), Stem(Ratio(1, 5), 1))), False)
        self.assertIs(shows_word(BLUNT, TurnIs(3), Always([[own, own]])), True)
        self.assertIs(shows_word(BLUNT, TurnIs(3), Always([[own]])), False)

    def test_order_of_told_ones(self):
        saying = Rows(TurnAbove(0).told + TurnAbove(Ratio(1, 4)).told)
        paper = word_of(KNOWN, saying)
        self.assertIs(shows_word(KNOWN, saying, paper), True)
        self.assertIs(shows_word(KNOWN, saying, Always(paper.papers[::-1])), False)
        self.assertIs(shows_word(KNOWN, saying, Always(paper.papers[:1])), False)
        self.assertIs(shows_word(KNOWN, saying, Always(paper.papers + paper.papers[:1])), False)
        two = word_of(KNOWN, TurnIs(Ratio(3, 8)))
        self.assertIs(shows_word(KNOWN, TurnIs(Ratio(3, 8)), Always([two.papers[0][::-1]])), False)

    def test_other_values(self):
        stem = fit(KNOWN).stem
        paper = word_of(KNOWN, LeansRight(A))
        values = [*ANY, Kept(stem), paper.papers, paper.papers[0][0], Paper("always", paper.papers), Denial("nowhere", None), tightest(KNOWN, TURN, 2)]
        for value in values + [Always(value) for value in ANY] + [Nowhere(value) for value in ANY] + [Always([value]) for value in ANY]:
            for book, saying in FEW[:4]:
                self.assertIs(shows_word(book, saying, value), False)
        for value in ANY:
            self.assertIs(shows_word(KNOWN, Shorter(A, C), Both(stem, value)), False)
            self.assertIs(shows_word(KNOWN, Shorter(A, C), Both(value, stem)), False)

    def test_wrong(self):
        check_wrong(self, lambda book, saying: shows_word(book, saying, None), ("book", "book", BLUNT), ("saying", "saying", SAYINGS[0]))


def is_tight(book, row, bottom, paper):
    """By the functions of the package's own answer: the two ends are settled, the papers and stems are not."""
    due = tightest(book, row, bottom)
    if not all(type(one) is type(other) and one == other for one, other in ((paper.low, due.low), (paper.high, due.high))):
        if not (plain_same(paper.low, due.low) and plain_same(paper.high, due.high)):
            return False
    return (
        shows_end(book, row, due.low, paper.low_paper, paper.low_stem, bottom)
        and shows_end(book, -row, None if due.high is None else -due.high, paper.high_paper, paper.high_stem, bottom)
    )


def plain_same(one, other):
    return type(plain(one)) is type(plain(other)) and one == other


def shows_end(book, row, low, paper, stem, bottom):
    if not isinstance(stem, Stem) or not keeps(stem, book):
        return False
    if low is None:
        return paper is None
    return at(row, stem) < next_ratio(fraction(low), bottom) and denies([*book, Told.above(Row(0, 0, low) - row)], paper)


class ShowsTight(unittest.TestCase):
    def test_what_is_returned(self):
        for book, row, bottom in ASKED:
            self.assertIs(shows_tight(book, row, bottom, tightest(book, row, bottom)), True)

    def test_bent(self):
        for book, row, bottom in ((FLAT, TURN, 3), (Book(), SQUARED, 2), (Book.read("zero 0 3 -1"), Row(0, 1, 0), 4)):
            for bent in bends(tightest(book, row, bottom)):
                self.assertIs(shows_tight(book, row, bottom, bent), is_tight(book, row, bottom, bent), (str(row), bent.parts))

    def test_other_right_ones(self):
        for book, row, bottom in ASKED[::9]:
            low, high, low_paper, high_paper, low_stem, high_stem = tightest(book, row, bottom).parts
            for one in ([None] if low_paper is None else other_ways(low_paper)):
                for other in ([None] if high_paper is None else other_ways(high_paper)):
                    self.assertIs(shows_tight(book, row, bottom, Tight(plain(low), plain(high), one, other, low_stem, high_stem)), True)

    def test_not_the_greatest(self):
        book = Book.read("zero 0 1 0")
        low = OneStep([1, 1], None, 0, 1)
        high = tightest(book, TURN, 5).high_paper
        self.assertIs(shows_tight(book, TURN, 5, Tight(-1, 0, low, high, Stem(0, 1), Stem(0, 1))), False)
        # Right of a row with a sum, but of another bottom.
        found = tightest(FLAT, TURN, 100)
        for bottom, due in ((100, True), (99, True), (41, True), (40, False), (140, False), (1000, False)):
            stems = (found.low_stem, found.high_stem)
            self.assertIs(shows_tight(FLAT, TURN, bottom, Tight(*found.parts[:4], *stems)), due, bottom)

    def test_none_where_there_is_one(self):
        found = tightest(FLAT, TURN, 7)
        for low, paper in ((None, None), (None, found.low_paper), (found.low, None)):
            self.assertIs(shows_tight(FLAT, TURN, 7, Tight(low, found.high, paper, found.high_paper, found.low_stem, found.high_stem)), False)
        self.assertIs(shows_tight(Book(), TURN, 7, Tight(None, None, None, None, Stem(0, 1), Stem(5, 26))), True)
        self.assertIs(shows_tight(Book(), TURN, 7, Tight(None, None, found.low_paper, None, Stem(0, 1), Stem(5, 26))), False)

    def test_of_impossible_books(self):
        for value in (tightest(FLAT, TURN, 7), Tight(None, None, None, None, Stem(0, 1), Stem(0, 1))):
            self.assertIs(shows_tight(BLUNT, TURN, 7, value), False)

    def test_other_values(self):
        for value in [*ANY, Always([]), Both(Stem(0, 1), Stem(1, 2)), Paper("tight", *tightest(FLAT, TURN, 3).parts)]:
            self.assertIs(shows_tight(FLAT, TURN, 3, value), False)

    def test_wrong(self):
        check_wrong(
            self, lambda book, row, bottom: shows_tight(book, row, bottom, None),
            ("book", "book", BLUNT), ("row", "row", TURN), ("bottom", up_to(1, 1000), 7),
        )
        for bottom in (0, 1001):
            check_raises(self, BadNumber("bottom"), shows_tight, EVEN, TURN, bottom, None)


if __name__ == "__main__":
    unittest.main()
