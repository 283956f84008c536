"""What shows_road takes, and what it does not."""

import unittest

from spiralsays.books import Book
from spiralsays.check_roads import shows_road
from spiralsays.fits import Kept, OneStep, fit
from spiralsays.papers import Denial, Paper
from spiralsays.ratios import Ratio
from spiralsays.roads import Road
from spiralsays.stems import Stem
from spiralsays.turns import Ended, Roadless, SureRoad, sure_road
from helpers import ANY, check_wrong
from papers_by_hand import bends, other_ways
from some_books import BLUNT, EVEN
from some_sayings import A
from test_turns import POSSIBLE, TURNED, is_road, short

SOME = Book.read("least 0 1 -3/8 , least 0 -1 2/5")
FEW = [SOME, Book.read("zero 0 1 -2/5"), Book.read("zero 0 1 7"), EVEN, Book()]
ROADS = [Road(whole, runs, kind) for whole in (0, 1, -7) for runs in ((), (1,), (1, 1), (1, 1, 1), (0, 1)) for kind in ("open", "ended")]
ROADS += [Road(whole, (), kind) for whole in (0, 1, -7, 7) for kind in ("edge", "first")]


class ShowsRoad(unittest.TestCase):
    def test_what_is_returned(self):
        for book in POSSIBLE:
            self.assertIs(shows_road(book, sure_road(book)), True, str(book))

    def test_bent(self):
        for book in FEW:
            paper = sure_road(book)
            for bent in bends(paper):
                self.assertIs(shows_road(book, bent), is_road(book, bent), (str(book), bent.parts))
            for other in FEW + TURNED:
                self.assertIs(shows_road(other, paper), is_road(other, paper), str(other))

    def test_other_roads(self):
        for book in FEW + TURNED:
            paper = sure_road(book)
            if paper.word != "roadless" and short(paper):
                for road in ROADS:
                    bent = type(paper)(road, *paper.parts[1:])
                    self.assertIs(shows_road(book, bent), is_road(book, bent), (str(book), str(road)))
                    if road != paper.road:
                        self.assertIs(shows_road(book, bent), False)

    def test_other_right_ones(self):
        found = sure_road(SOME)
        for one in other_ways(found.low_paper):
            for other in other_ways(found.high_paper):
                self.assertIs(shows_road(SOME, SureRoad(found.road, one, other, found.one, found.other)), True)
        ended = sure_road(FEW[1])
        for one in other_ways(ended.low_paper):
            self.assertIs(shows_road(FEW[1], Ended(ended.road, one, ended.high_paper, Stem(Ratio(2, 5), 9))), True)
        # The corner of third, 2/5, is the turn of one of them, or lies between.
        for book, one, other, due in (
            (SOME, Ratio(3, 8), Ratio(2, 5), True), (SOME, Ratio(7, 18), Ratio(2, 5), True), (SOME, Ratio(3, 8), Ratio(5, 13), False),
            (SOME, Ratio(2, 5), Ratio(3, 8), False), (SOME, Ratio(2, 5), Ratio(2, 5), False), (SOME, Ratio(3, 8), Ratio(41, 100), False),
        ):
            paper = SureRoad(found.road, found.low_paper, found.high_paper, Stem(one, 1), Stem(other, 1))
            self.assertIs(shows_road(book, paper), due, (one, other))

    def test_shorter_and_longer_ones(self):
        # A shorter road: the stems' turns do not lie on both sides of its third's corner; a longer one: the sums are none.
        found = sure_road(SOME)
        low = OneStep([1, 0, 1], None, 0, Ratio(3, 8) - Ratio(1, 3))
        high = OneStep([0, 1, 1], None, 0, Ratio(1, 2) - Ratio(2, 5))
        self.assertIs(shows_road(SOME, SureRoad(Road(0, [1, 1], "open"), low, high, found.one, found.other)), True)
        for runs, low_end, high_end in (([1], 0, Ratio(1, 2)), ([], 0, 1)):
            low = OneStep([1, 0, 1], None, 0, Ratio(3, 8) - low_end)
            high = OneStep([0, 1, 1], None, 0, -(Ratio(2, 5) - high_end))
            self.assertIs(shows_road(SOME, SureRoad(Road(0, runs, "open"), low, high, found.one, found.other)), False)

    def test_roadless(self):
        wide = Book.read("least 0 1 0 , least 0 -1 3")
        for one, other, due in (
            (0, 1, True), (0, Ratio(1, 2), True), (Ratio(1, 2), 1, True), (Ratio(1, 2), Ratio(3, 2), True), (Ratio(1, 3), Ratio(2, 3), False), (1, 0, False),
            (1, 1, False), (Ratio(5, 2), 3, True), (Ratio(5, 2), Ratio(16, 5), False), (Ratio(7, 3), Ratio(8, 3), False), (Ratio(-1, 2), Ratio(1, 2), False),
            (Ratio(1, 2), 3, True),
        ):
            paper = Roadless(Stem(one, 99), Stem(other, 98))
            self.assertIs(shows_road(wide, paper), due, (one, other))
            self.assertIs(is_road(wide, paper), due)
        below = Book.read("least 0 -1 0")
        for one, other, due in ((Ratio(-1, 2), Ratio(-1, 3), False), (Ratio(-3, 2), Ratio(-1, 2), True), (-1, Ratio(-1, 2), True), (Ratio(-3, 2), -1, True), (Ratio(-1, 2), 0, True)):
            self.assertIs(shows_road(below, Roadless(Stem(one, 9), Stem(other, 9))), due)

    def test_of_impossible_books(self):
        own = OneStep([1, 1, 0], A, 1, 0)
        stem = Stem(Ratio(3, 8), 1)
        for value in (
            SureRoad(Road(0, [1, 1], "open"), own, own, stem, Stem(Ratio(2, 5), 1)), Ended(Road(0, [], "edge"), own, own, Stem(0, 1)), Roadless(Stem(0, 1), Stem(1, 2)),
            sure_road(SOME), sure_road(EVEN), fit(BLUNT),
        ):
            self.assertIs(shows_road(BLUNT, value), False)

    def test_other_values(self):
        for book in FEW:
            right = sure_road(book)
            for value in [*ANY, Kept(fit(book).stem), right.parts, Paper(right.word, *right.parts), Denial(right.word, *right.parts)]:
                self.assertIs(shows_road(book, value), False)
        check_wrong(self, lambda book: shows_road(book, None), ("book", "book", BLUNT))


if __name__ == "__main__":
    unittest.main()
