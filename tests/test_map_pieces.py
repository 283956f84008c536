"""The pieces of the map, and the sure nearest two; papers and stems reckoned without the program."""

import time
import unittest

from spiralsays.books import Book
from spiralsays.errors import Impossible, TooMany
from spiralsays.fits import fit
from spiralsays.map_pieces import SureNearest, pairs_of, piece, sure_nearest
from spiralsays.net_words import Unsure
from spiralsays.nets import Net
from spiralsays.papers import Paper
from spiralsays.ratios import Ratio
from spiralsays.rows import Told
from spiralsays.sayings import AsLong, IsNet, Nearest, RightAngle
from spiralsays.stems import Stem
from spiralsays.steps import Step
from helpers import check_raises, check_wrong, fraction, is_nearest, keeps
from papers_by_hand import is_always
from some_books import BLUNT, EVEN, FLAT, made_up
from some_sayings import A, B, C, NETS, ROUND
from test_net_words import IMPOSSIBLE, PLACED, POSSIBLE, book_of

SIX = Stem(Ratio(5, 14), Ratio(1, 7))
# Books at places where six pairs meet, where two do, along sides of pieces and across them.
MET = [
    book_of(AsLong(A, C), AsLong(C, B)), book_of(AsLong(A, C)), book_of(AsLong(B, ROUND)), book_of(AsLong(B, ROUND), RightAngle(B, ROUND)),
    book_of(Nearest(C, A), AsLong(A, Step(1, 0))), Book.read("zero 1 0 -1/7"), Book.read("zero 0 1 -5/14"), Book.read("zero 0 1 -5/14 , least 1 0 -1/7"),
    Book.read("zero 0 1 -5/14 , least -1 0 1/7"), Book.read("zero 0 1 -1/2 , least 1 0 -1"), Book.read("zero 1 0 -1 , least 0 1 -1/2"),
    Book.read("zero 7 0 -1 , least 0 -14 5"), Book.read("least 7 -1 -9/14 , least 7 1 -19/14 , least -7 0 1"), book_of(Nearest(B, C), Nearest(C, B)),
    # Around a place where six meet: fit tells just this place.
    Book.read("least 1 0 -1 , zero 0 1 -1/2"), Book.read("least 1 0 -1 , least -1 0 2 , zero 1 -1 -1/2"),
]
ALL = MET + PLACED + POSSIBLE[::3]


def upward_steps(stem, most):
    """The upward steps near to a stem's shortest ones, by trying all of a box."""
    turn = fraction(stem.turn)
    steps = [Step(0, 1)]
    for studs in range(1, most + 1):
        middle = round(studs * turn)
        steps += [Step(studs, rounds) for rounds in range(middle - 3, middle + 4)]
    return steps


def pairs_by_hand(stem, most=9):
    steps = upward_steps(stem, most)
    found = [(one.studs, one.rounds, other.studs, other.rounds) for one in steps for other in steps if is_nearest(stem, one, other)]
    return sorted(found)


def share(one, other):
    return any(is_nearest(other, *pair) for pair in pairs_of(one)) or any(is_nearest(one, *pair) for pair in pairs_of(other))


class Pieces(unittest.TestCase):
    def test_piece(self):
        for net in NETS:
            for book in (Book(), EVEN):
                self.assertEqual(piece(book, net), Book(book.told + IsNet(net).told))
                self.assertIs(type(piece(book, net)), Book)
        check_wrong(self, piece, ("book", "book", BLUNT), ("net", "net", NETS[0]))
        one = Told.read("least 0 0 1")
        self.assertEqual(len(piece(Book([one] * 37), NETS[0])), 40)
        check_raises(self, TooMany("told", 40), piece, Book([one] * 38), NETS[0])
        self.assertFalse(fit(piece(Book.read("zero 0 1 -1/2"), Net(C, Step(1, 1)))))

    def test_pairs_of_stems(self):
        for stem, many in ((SIX, 6), (Stem(0, 1), 2), (Stem(Ratio(1, 2), 1), 6), (Stem(0, Ratio(1, 16)), 1), (Stem(Ratio(1, 2), 5), 2), (Stem(Ratio(5, 14), 1), 2), (Stem(Ratio(5, 14), Ratio(9, 10)), 1)):
            found = [(one.studs, one.rounds, other.studs, other.rounds) for one, other in pairs_of(stem)]
            self.assertEqual(found, pairs_by_hand(stem))
            self.assertEqual(len(found), many, str(stem))

    def test_papers_are_right(self):
        sure = 0
        for book in ALL:
            if not fit(book):
                continue
            paper = sure_nearest(book)
            if paper:
                sure += 1
                self.assertIs(type(paper), SureNearest)
                self.assertTrue(is_always(book.told, Nearest(paper.one, paper.other).told, paper.papers), str(book))
                self.assertEqual((paper.one.upward, paper.other.upward), (paper.one, paper.other))
            else:
                self.assertIs(type(paper), Unsure)
                self.assertTrue(keeps(paper.one, book) and keeps(paper.other, book))
                self.assertFalse(share(paper.one, paper.other), str(book))
        self.assertGreater(sure, 12)

    def test_first_pair(self):
        for book in ALL:
            paper = sure_nearest(book) if fit(book) else None
            if paper:
                here = (paper.one.studs, paper.one.rounds, paper.other.studs, paper.other.rounds)
                for k, j, m, i in pairs_by_hand(fit(book).stem):
                    if (k, j, m, i) < here:
                        told = Nearest(Step(k, j), Step(m, i)).told
                        self.assertFalse(all(not fit(Book(book.told + one.contrary())) for one in told))

    def test_by_hand(self):
        for book, due in (
            (book_of(AsLong(A, C), AsLong(C, B)), "1 0 2 1"), (book_of(Nearest(C, A)), "2 1 3 1"), (book_of(Nearest(A, C)), "3 1 2 1"),
            (book_of(Nearest(A, C), Nearest(C, A)), "2 1 3 1"), (book_of(AsLong(B, ROUND), RightAngle(B, ROUND)), "0 1 1 0"), (Book(), None),
            (book_of(AsLong(A, C)), None), (Book.read("zero 0 1 -5/14"), None), (Book.read("least -1 0 1/16 , zero 0 1 0"), "1 0 0 1"),
            (Book.read("least -1 0 1/16 , least 16 0 -1 , zero 0 1 0"), "1 0 0 1"), (Book.read("least 1 0 -1 , least 0 2 -1 , least 0 -2 1"), "0 1 1 0"), (Book.read("least 4 0 -3 , least 0 2 -1 , least 0 -2 1"), None),
            (Book.read("least 1 0 -5 , least 0 2 -1 , least 0 -2 1"), "0 1 1 0"), (Book.read("least 1 0 -5 , above 0 2 -1 , least 0 -1 1"), "0 1 1 1"),
        ):
            paper = sure_nearest(book)
            self.assertEqual(f"{paper.one} {paper.other}" if paper else None, due, str(book))

    def test_wrong(self):
        check_wrong(self, sure_nearest, ("book", "book", EVEN))
        for book in IMPOSSIBLE + [BLUNT]:
            check_raises(self, Impossible(fit(book)), sure_nearest, book)

    def test_class(self):
        paper = SureNearest([1], 2, papers=[[3]])
        self.assertEqual((paper.word, paper.parts, paper.one, paper.other, paper.papers), ("surenearest", ((1,), 2, ((3,),)), (1,), 2, ((3,),)))
        self.assertEqual(SureNearest.__bases__, (Paper,))
        self.assertEqual(sure_nearest(FLAT), sure_nearest(Book(list(FLAT.told))))

    def test_short_time(self):
        begin = time.time()
        for book in made_up(45, 6, 8):
            full = Book((list(book.told) * 20)[:20])
            if fit(full):
                sure_nearest(full)
        self.assertLess(time.time() - begin, 20)


if __name__ == "__main__":
    unittest.main()
