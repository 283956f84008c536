"""The roads of books; papers and stems reckoned without the program."""

import time
import unittest

from spiralsays.books import Book
from spiralsays.errors import Impossible, TooMany
from spiralsays.fits import fit
from spiralsays.fractions import runs_of
from spiralsays.papers import Denial, Paper
from spiralsays.ratios import Ratio
from spiralsays.roads import Road
from spiralsays.rows import Row, Told
from spiralsays.sayings import AsLong, RightAngle, TurnAbove, TurnAtLeast, TurnAtMost, TurnBelow, TurnIs
from spiralsays.stems import Stem
from spiralsays.turns import Ended, Roadless, SureRoad, sure_road
from helpers import check_raises, check_wrong, fraction, keeps
from papers_by_hand import denies
from some_books import BLUNT, BY_HAND, EVEN, FLAT, MADE_UP, made_up
from some_sayings import A, B, C
from test_net_words import IMPOSSIBLE, PLACED, book_of
from test_roads import walked, letters

# One turn, whole or not; turns with a whole number at an end or between; ends that are roots; a third's corner among them.
TURNED = [Book.read(text) for text in (
    "zero 0 1 -2/5", "zero 0 1 -7", "zero 0 2 14", "least 0 1 -1/2 , least 0 -1 1/2", "least 0 1 -1 , least 0 -1 1", "zero 1 0 -1/7 , zero 0 1 -5/14",
    "least 0 1 0 , least 0 -1 1/3", "above 0 1 0 , least 0 -1 1/3", "above 0 1 0 , above 0 -1 1", "least 0 1 0 , above 0 -1 1", "above 0 1 0 , least 0 -1 1",
    "least 0 1 -1/2 , above 0 -1 3/2", "least 0 1 -3/8 , least 0 -1 2/5", "above 0 1 -3/8 , above 0 -1 2/5", "above 0 1 -1/3 , above 0 -1 1/2",
    "least 0 1 -1/3 , above 0 -1 1/2", "above 0 1 -1/3 , least 0 -1 1/2", "least -1 0 1/2 , above 0 1 0", "least -1 0 1/2 , above 0 10 -7",
    "least -1 0 1/2 , above 0 -10 -7", "least -1 0 2 , above 0 5 -7", "least 0 -1 -5/2 , least 0 1 3", "above 0 1 -2/5 , above 0 -1 401/1000",
    "above 0 1 -1/1000000000 , above 0 -1 1/500000000", "zero 0 1 -1/1000000000", "least 0 1 -1000000 , above 0 -1 1000001", "-",
)]
POSSIBLE = [book for book in TURNED + PLACED + [book for book, _ in BY_HAND] + MADE_UP[::7] if fit(book)]


def put_in(book, saying):
    return [*book, *saying.told]


def is_road(book, paper):
    """Whether a SureRoad, an Ended or a Roadless is right; parts of any kind."""
    if paper.word == "roadless":
        one, other = paper.one, paper.other
        if not all(isinstance(stem, Stem) and keeps(stem, book) for stem in (one, other)):
            return False
        low, high = fraction(one.turn), fraction(other.turn)
        return low < high and (low.denominator == 1 or high // 1 > low // 1)
    if not isinstance(paper.road, Road):
        return False
    if paper.word == "ended":
        if paper.road.kind == "edge":
            turn = Ratio(paper.road.whole)
        elif paper.road.kind == "ended":
            turn = walked(paper.road.whole, letters(paper.road.runs)).third.corner
        else:
            return False
        right = denies(put_in(book, TurnBelow(turn)), paper.low_paper) and denies(put_in(book, TurnAbove(turn)), paper.high_paper)
        return right and isinstance(paper.stem, Stem) and keeps(paper.stem, book)
    if paper.road.kind != "open":
        return False
    net = walked(paper.road.whole, letters(paper.road.runs))
    if not denies(put_in(book, TurnAtMost(net.low.corner)), paper.low_paper):
        return False
    if not denies(put_in(book, TurnAtLeast(net.high.corner)), paper.high_paper):
        return False
    if not all(isinstance(stem, Stem) and keeps(stem, book) for stem in (paper.one, paper.other)):
        return False
    low, high = fraction(paper.one.turn), fraction(paper.other.turn)
    return low < high and low <= fraction(net.third.corner) <= high


def short(paper):
    """Whether the road's letters can be walked one by one."""
    return not hasattr(paper, "road") or not isinstance(paper.road, Road) or paper.road.letters < 5000


class SureRoads(unittest.TestCase):
    def test_papers_are_right(self):
        words = {}
        for book in POSSIBLE:
            paper = sure_road(book)
            words[paper.word] = words.get(paper.word, 0) + 1
            self.assertIn(type(paper), (SureRoad, Ended, Roadless))
            if short(paper):
                self.assertTrue(is_road(book, paper), str(book))
        self.assertGreater(min(words.values()), 10)
        self.assertEqual(len(words), 3)

    def test_by_hand(self):
        for text, due in (
            ("zero 0 1 -2/5", "0 ended 1 1"), ("zero 0 1 -7", "7 edge"), ("least 0 1 -1/2 , least 0 -1 1/2", "0 ended"), ("zero 1 0 -1/7 , zero 0 1 -5/14", "0 ended 1 1 3"),
            ("least 0 1 0 , least 0 -1 1/3", None), ("above 0 1 0 , least 0 -1 1/3", "0 open 1"), ("above 0 1 0 , above 0 -1 1", "0 open"),
            ("least 0 1 0 , above 0 -1 1", None), ("above 0 1 0 , least 0 -1 1", None), ("least 0 1 -1/2 , above 0 -1 3/2", None),
            ("least 0 1 -3/8 , least 0 -1 2/5", "0 open 1 1"), ("above 0 1 -3/8 , above 0 -1 2/5", "0 open 1 1 1 1"), ("above 0 1 -1/3 , above 0 -1 1/2", "0 open 1 1"),
            ("least 0 1 -1/3 , above 0 -1 1/2", "0 open 1"), ("above 0 1 -1/3 , least 0 -1 1/2", "0 open"),
            # From 7/10 to the root of a half: of 1/2, 2/3, 3/4, 5/7, 7/10, 12/17 only the last one is among the turns.
            ("least -1 0 1/2 , above 0 10 -7", "0 open 0 2 2 1"), ("least -1 0 2 , above 0 5 -7", "1 open 1 2 2"), ("-", None),
            ("zero 0 1 -1/1000000000", "0 ended 999999998"), ("above 0 1 -1/1000000000 , above 0 -1 1/500000000", "0 open 499999999"),
        ):
            paper = sure_road(Book.read(text))
            self.assertEqual(None if paper.word == "roadless" else str(paper.road), due, text)

    def test_no_longer_road(self):
        # One letter more would leave one of the two stems out.
        for book in POSSIBLE:
            paper = sure_road(book)
            if paper.word == "sureroad" and short(paper):
                net = walked(paper.road.whole, letters(paper.road.runs))
                for child in net.children:
                    turns = [fraction(stem.turn) for stem in (paper.one, paper.other)]
                    inside = [fraction(child.low.corner) < turn < fraction(child.high.corner) for turn in turns]
                    self.assertFalse(all(inside))

    def test_all_turns_are_on_the_road(self):
        stems = [fit(book).stem for book in POSSIBLE]
        for book in POSSIBLE[::3]:
            paper = sure_road(book)
            if paper.word == "sureroad" and short(paper):
                net = walked(paper.road.whole, letters(paper.road.runs))
                for stem in stems:
                    if keeps(stem, book):
                        self.assertTrue(fraction(net.low.corner) < fraction(stem.turn) < fraction(net.high.corner))

    def test_too_many_runs(self):
        # 60 runs are told, 61 are not; a book without a road has none too many.
        turns = {}
        one, other = 1, 2
        for _ in range(70):
            one, other = other, one + other
            turns[len(runs_of(Ratio(one, other)))] = Ratio(one, other)
        self.assertEqual(len(sure_road(Book(TurnIs(turns[60]).told)).road.runs), 60)
        check_raises(self, TooMany("runs", 60), sure_road, Book(TurnIs(turns[61]).told))
        narrow = lambda turn: Book(TurnAtLeast(turn).told + TurnAtMost(turn + Ratio(1, 10 ** 60)).told)
        self.assertEqual(len(sure_road(narrow(turns[60])).road.runs), 60)
        check_raises(self, TooMany("runs", 60), sure_road, narrow(turns[61]))
        self.assertEqual(sure_road(Book(TurnAtLeast(turns[61]).told)).word, "roadless")

    def test_full_books(self):
        book = Book([Told.least(Row(0, 1, Ratio(-3, 8)))] * 39 + [Told.least(Row(0, -1, Ratio(2, 5)))])
        paper = sure_road(book)
        self.assertEqual([len(paper.low_paper.weights), len(paper.high_paper.weights)], [41, 41])
        self.assertTrue(is_road(book, paper))

    def test_wrong(self):
        check_wrong(self, sure_road, ("book", "book", EVEN))
        for book in IMPOSSIBLE + [BLUNT]:
            check_raises(self, Impossible(fit(book)), sure_road, book)

    def test_classes(self):
        for paper, word, parts, base in (
            (SureRoad(1, [2], 3, one=4, other=5), "sureroad", (1, (2,), 3, 4, 5), Paper), (Ended(1, 2, high_paper=[3], stem=4), "ended", (1, 2, (3,), 4), Paper),
            (Roadless(1, other=[2]), "roadless", (1, (2,)), Denial),
        ):
            self.assertEqual((paper.word, paper.parts, type(paper).__bases__), (word, parts, (base,)))
        paper = SureRoad(1, 2, 3, 4, 5)
        self.assertEqual((paper.road, paper.low_paper, paper.high_paper, paper.one, paper.other), paper.parts)
        paper = Ended(1, 2, 3, 4)
        self.assertEqual((paper.road, paper.low_paper, paper.high_paper, paper.stem), paper.parts)
        self.assertEqual((Roadless(1, 2).one, Roadless(1, 2).other), (1, 2))
        for book in (EVEN, FLAT, book_of(AsLong(A, C), AsLong(C, B)), book_of(RightAngle(B, C))):
            self.assertEqual(sure_road(book), sure_road(Book(list(book.told))))

    def test_short_time(self):
        begin = time.time()
        for book in made_up(55, 6, 8):
            full = Book((list(book.told) * 20)[:20])
            if fit(full):
                sure_road(full)
        self.assertLess(time.time() - begin, 20)


if __name__ == "__main__":
    unittest.main()
