"""How great the rise can be; papers that are returned add up."""

import unittest

from spiralsays.books import Book
from spiralsays.errors import Impossible, Unlike
from spiralsays.fits import fit
from spiralsays.papers import Denial, Paper
from spiralsays.ratios import Ratio
from spiralsays.rises import Endless, Highest, NotReached, Reached, greatest_rise, reached
from spiralsays.rows import Row, Told
from spiralsays.stems import Stem
from helpers import check_raises, check_wrong, fraction, keeps, total, worth
from some_books import BY_HAND, EVEN, FLAT, MADE_UP

ALL = [book for book, _ in BY_HAND] + MADE_UP


def is_endless(book):
    return not any(one.row.a.sign < 0 or (one.kind == "zero" and one.row.a.sign) for one in book)


def first_that_fails(stem, book):
    return next((number for number, one in enumerate(book) if not keeps(stem, [one])), None)


class Rises(unittest.TestCase):
    def check_highest(self, book, paper):
        self.assertIs(type(paper), Highest)
        self.assertGreater(fraction(paper.bound), 0)
        self.assertIs(type(paper.weights), tuple)
        for one in (paper.bound, *paper.weights):
            self.assertIsInstance(one, Ratio)
        self.assertEqual(paper.step.divisor, 1)
        self.assertGreater(paper.step.studs, 0)
        turn, bound = fraction(paper.step.corner), fraction(paper.bound)
        # bound - (E - 2 turn D + turn turn)
        self.assertEqual(total(book, paper.weights), (-1, 2 * turn, bound - turn * turn))
        for one, weight in zip(book, paper.weights):
            self.assertTrue(one.kind == "zero" or fraction(weight) >= 0)
        place = Stem(paper.step.corner, paper.bound + paper.step.corner * paper.step.corner)
        for one in book:
            value = worth(one, place)
            self.assertTrue(value == 0 if one.kind == "zero" else value >= 0)
        return place

    def test_papers_are_right(self):
        found = {"endless": 0, "highest": 0, "reached": 0, "notreached": 0}
        for book in ALL:
            if not fit(book):
                for call in (greatest_rise, reached):
                    check_raises(self, Impossible(fit(book)), call, book)
                continue
            paper = greatest_rise(book)
            found[paper.word] += 1
            if is_endless(book):
                self.assertIs(type(paper), Endless)
                self.assertTrue(keeps(paper.stem, book))
                check_raises(self, Unlike("rise"), reached, book)
                continue
            place = self.check_highest(book, paper)
            answer = reached(book)
            found[answer.word] += 1
            failing = first_that_fails(place, book)
            if failing is None:
                self.assertIs(type(answer), Reached)
                self.assertEqual(answer.stem, place)
            else:
                self.assertIs(type(answer), NotReached)
                self.assertEqual(answer.number, failing)
                self.assertIs(type(answer.number), int)
                self.assertEqual(book.told[failing].kind, "above")
        self.assertTrue(all(many > 20 for many in found.values()), found)

    def test_by_hand(self):
        for text, bound, step in (
            ("least -1 0 1/2", "1/2", "1 0"), ("above -1 0 1/2", "1/2", "1 0"), ("zero 5 -2 0", "1/25", "5 1"),
            ("least -1 1 0", "1/4", "2 1"), ("least -1 0 1 , least 0 1 -1/2", "3/4", "2 1"), ("zero 0 7 100 , zero 1 0 -205", "45/49", "7 -100"),
            ("least -1 0 2 , least -1 4 -2", "1", "1 1"), ("least -1 0 1 , zero 0 3 2", "5/9", "3 -2"),
        ):
            paper = greatest_rise(Book.read(text))
            self.assertEqual([str(paper.bound), str(paper.step)], [bound, step], text)

    def test_a_row_that_is_above(self):
        # Told least the bound is reached, told above it is not.
        least = Book.read("least -1 0 1/2")
        self.assertEqual(reached(least).stem, Stem(0, Ratio(1, 2)))
        self.assertEqual(reached(FLAT), NotReached(0))
        both = Book([Told.least(Row(0, 0, 1)), *least.told, *FLAT.told])
        self.assertEqual(reached(both), NotReached(2))

    def test_endless(self):
        for text in ("-", "zero 0 3 -1", "above 1 0 -100 , least 2 5 0", "above 0 1 0 , above 0 -1 1"):
            book = Book.read(text)
            paper = greatest_rise(book)
            self.assertIs(type(paper), Endless)
            self.assertTrue(keeps(paper.stem, book))
        # A zero row with an E bounds it, whatever its sign; 0 times E does not.
        self.assertEqual(greatest_rise(Book.read("zero 1 0 -1")).bound, 1)
        self.assertEqual(greatest_rise(Book.read("zero -1 0 1")).bound, 1)

    def test_called_again(self):
        for book in (EVEN, FLAT, Book(), *MADE_UP[::30]):
            if fit(book):
                self.assertEqual(greatest_rise(book), greatest_rise(book))

    def test_wrong(self):
        for call in (greatest_rise, reached):
            check_wrong(self, call, ("book", "book", EVEN))

    def test_classes(self):
        for paper, word, parts, base in (
            (Highest(1, [2, [3]], step=None), "highest", (1, (2, (3,)), None), Paper), (Endless([1]), "endless", ((1,),), Paper),
            (Reached(stem="x"), "reached", ("x",), Paper), (NotReached(number=True), "notreached", (True,), Denial),
        ):
            self.assertEqual((paper.word, paper.parts), (word, parts))
            self.assertIs(bool(paper), base is Paper)
            self.assertEqual(type(paper).__bases__, (base,))
        self.assertEqual([Highest(1, (2,), 3).bound, Highest(1, (2,), 3).weights, Highest(1, (2,), 3).step], [1, (2,), 3])
        self.assertEqual([Endless(1).stem, Reached(2).stem, NotReached(3).number], [1, 2, 3])


if __name__ == "__main__":
    unittest.main()
