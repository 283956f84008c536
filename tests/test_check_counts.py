"""What shows_counts and shows_word_counts take, and what they do not."""

import unittest

from spiralsays.books import Book
from spiralsays.check_counts import shows_counts, shows_word_counts
from spiralsays.counted import NearerStud, OneWay, RightLeft, SeenBoth
from spiralsays.cuts import cuts
from spiralsays.fits import Kept, OneStep
from spiralsays.papers import Denial, Paper
from spiralsays.ratios import Ratio
from spiralsays.sayings import LeansRight, Rows, TurnAtMost, TurnBelow, TurnIs
from spiralsays.stems import Stem
from spiralsays.told_counts import CountBook, KeptCounts, NoStretch, fit_counts, word_counts
from spiralsays.windows import Window
from spiralsays.words import Always, Both, Nowhere
from helpers import ANY, check_wrong
from papers_by_hand import bends, other_ways
from some_books import BLUNT
from some_sayings import A
from test_told_counts import ASKED, COUNT_BOOKS, HALF, LEVEL, SEEN, UNIT, is_counts, is_word_counts, keeps_counts

STEM = Stem(Ratio(5, 13), Ratio(2, 13))
FEW = [SEEN, HALF, CountBook(Book(), Window(Ratio(1, 3), Ratio(1, 2)), [OneWay(2, "left")]), CountBook(BLUNT, UNIT, [NearerStud(1, 2)])]
FEW_ASKED = [
    (SEEN, TurnBelow(Ratio(2, 5))), (SEEN, TurnBelow(0)), (SEEN, TurnAtMost(Ratio(5, 13))), (SEEN, OneWay(8, "right")), (SEEN, RightLeft(5, 8)),
    (SEEN, OneWay(13, "right")), (SEEN, Rows(LEVEL.told + TurnBelow(1).told)), (SEEN, SeenBoth(5, 3)),
]


def other_way(paper):
    """The paper with each OneStep in it written in another right way."""
    if isinstance(paper, OneStep):
        return other_ways(paper)[-1]
    return [other_way(part) for part in paper]


class ShowsCounts(unittest.TestCase):
    def test_what_is_returned(self):
        for count_book in COUNT_BOOKS:
            self.assertIs(shows_counts(count_book, fit_counts(count_book)), True)

    def test_bent(self):
        for count_book in FEW:
            paper = fit_counts(count_book)
            for bent in bends(paper):
                self.assertIs(shows_counts(count_book, bent), is_counts(count_book, bent), bent.parts)
            for other in FEW + COUNT_BOOKS[::7]:
                self.assertIs(shows_counts(other, paper), is_counts(other, paper))

    def test_other_right_ones(self):
        for count_book in COUNT_BOOKS:
            paper = fit_counts(count_book)
            if not paper:
                self.assertIs(shows_counts(count_book, NoStretch(other_way(paper.papers))), True)
                if len(paper.papers) > 0:
                    self.assertIs(shows_counts(count_book, NoStretch(paper.papers[1:])), False)
                    self.assertIs(shows_counts(count_book, NoStretch(paper.papers + paper.papers[:1])), False)
                if len(paper.papers) > 1:
                    turned = NoStretch(paper.papers[::-1])
                    self.assertIs(shows_counts(count_book, turned), is_counts(count_book, turned))
        for stem in (STEM, Stem(Ratio(39, 100), Ratio(39, 250)), Stem(Ratio(39, 100), 1), Stem(Ratio(2, 5), Ratio(4, 25) + Ratio(1, 100))):
            self.assertIs(shows_counts(SEEN, KeptCounts(stem)), keeps_counts(stem, SEEN))

    def test_many_cuts(self):
        wide = CountBook(Book(), UNIT, [OneWay(21, "right"), OneWay(20, "right"), OneWay(19, "right")])
        self.assertGreater(len(cuts(wide.things, UNIT)), 100)
        stem = Stem(Ratio(1, 21) + Ratio(1, 10 ** 4), 1)
        stems = [Stem(Ratio(k, 997), 1) for k in range(997)] + [stem]
        kept = [stem for stem in stems if keeps_counts(stem, wide)]
        self.assertTrue(kept)
        self.assertIs(shows_counts(wide, KeptCounts(kept[0])), True)
        for asked in (LeansRight(A), OneWay(17, "left")):
            self.assertIs(shows_word_counts(wide, asked, Both(kept[0], kept[0])), False)
            self.assertIs(shows_word_counts(wide, asked, Always([])), False)
        # A book that denies all cases by itself; things that have a piece in each stretch.
        denied = CountBook(BLUNT, UNIT, [NearerStud(21, 20), NearerStud(19, 17), NearerStud(13, 11), NearerStud(18, 16)])
        own = lambda more: OneStep([1, 1] + [0] * (6 + more), A, 1, 0)
        many = len(cuts(denied.things, UNIT)) + 1
        self.assertGreater(many, 102)
        for number in (many - 1, many, many + 1):
            self.assertIs(shows_counts(denied, NoStretch([own(0)] * number)), number == many)
        self.assertIs(shows_word_counts(denied, TurnBelow(0), Always([[[own(1)]]] * many)), True)
        self.assertIs(shows_word_counts(denied, TurnBelow(0), Nowhere([own(1)] * many)), True)

    def test_other_values(self):
        for count_book in FEW:
            right = fit_counts(count_book)
            for value in [*ANY, Kept(STEM), right.parts, Paper(right.word, *right.parts), Denial(right.word, *right.parts)]:
                self.assertIs(shows_counts(count_book, value), False)
        check_wrong(self, lambda count_book: shows_counts(count_book, None), ("count_book", "count book", SEEN))


class ShowsWordCounts(unittest.TestCase):
    def test_what_is_returned(self):
        for count_book, asked in ASKED:
            if fit_counts(count_book):
                self.assertIs(shows_word_counts(count_book, asked, word_counts(count_book, asked)), True)

    def test_bent(self):
        for count_book, asked in FEW_ASKED:
            paper = word_counts(count_book, asked)
            for bent in bends(paper):
                self.assertIs(shows_word_counts(count_book, asked, bent), is_word_counts(count_book, asked, bent), (str(asked), bent.parts))
            for other_book, other in FEW_ASKED:
                self.assertIs(shows_word_counts(other_book, other, paper), is_word_counts(other_book, other, paper))

    def test_other_right_ones(self):
        for count_book, asked in ASKED:
            if fit_counts(count_book):
                paper = word_counts(count_book, asked)
                if paper.word != "both":
                    other = type(paper)(other_way(paper.parts[0]))
                    self.assertIs(shows_word_counts(count_book, asked, other), True)
                    self.assertIs(shows_word_counts(count_book, asked, type(paper)(paper.parts[0] + paper.parts[0][:1])), False)
                    self.assertIs(shows_word_counts(count_book, asked, type(paper)(paper.parts[0][1:])), False)
                else:
                    self.assertIs(shows_word_counts(count_book, asked, Both(paper.broken, paper.kept)), False)

    def test_of_impossible_count_books(self):
        alone = OneStep([1, 0, 1, 0, 0], None, 0, Ratio(1, 10))
        self.assertIs(shows_counts(HALF, NoStretch([alone])), True)
        one, two = OneStep([1, 0, 1, 0, 0, 0], None, 0, Ratio(1, 10)), OneStep([1, 0, 1, 0, 0, 0, 0], None, 0, Ratio(1, 10))
        self.assertIs(shows_word_counts(HALF, TurnBelow(0), Always([[[one]]])), True)
        self.assertIs(shows_word_counts(HALF, TurnBelow(0), Nowhere([one])), True)
        self.assertIs(shows_word_counts(HALF, TurnIs(0), Always([[[one, one]]])), True)
        self.assertIs(shows_word_counts(HALF, TurnIs(0), Always([[[one]]])), False)
        self.assertIs(shows_word_counts(HALF, RightLeft(8, 5), Always([[one, one]])), True)
        self.assertIs(shows_word_counts(HALF, RightLeft(8, 5), Nowhere([[two]])), True)
        self.assertIs(shows_word_counts(HALF, RightLeft(8, 5), Nowhere([two])), False)
        # Where the asked thing has no piece: the case itself is impossible.
        self.assertIs(shows_word_counts(HALF, RightLeft(5, 8), Always([[alone]])), True)
        self.assertIs(shows_word_counts(HALF, RightLeft(5, 8), Nowhere([[]])), True)
        self.assertIs(shows_word_counts(HALF, RightLeft(5, 8), Nowhere([[alone]])), False)
        for asked in (TurnBelow(0), RightLeft(5, 8)):
            self.assertIs(shows_word_counts(HALF, asked, Both(STEM, STEM)), False)

    def test_other_values(self):
        for count_book, asked in FEW_ASKED:
            right = word_counts(count_book, asked)
            values = [*ANY, right.parts, Paper(right.word, *right.parts), Denial(right.word, *right.parts), fit_counts(count_book)]
            values += [Always(value) for value in ANY] + [Nowhere(value) for value in ANY] + [Always([value]) for value in ANY]
            values += [Both(STEM, value) for value in ANY] + [Both(value, STEM) for value in ANY]
            for value in values:
                due = isinstance(value, Both) and is_word_counts(count_book, asked, value)
                self.assertIs(shows_word_counts(count_book, asked, value), due)

    def test_wrong(self):
        call = lambda count_book, saying: shows_word_counts(count_book, saying, None)
        check_wrong(self, call, ("count_book", "count book", HALF), ("saying", "saying or thing", LeansRight(A)))


if __name__ == "__main__":
    unittest.main()
