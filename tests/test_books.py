"""Books of told ones."""

import itertools
import unittest

from spiralsays.books import Book
from spiralsays.errors import BadBook, BadTold, NoTold, TooMany
from spiralsays.ratios import Ratio
from spiralsays.rows import Row, Told
from spiralsays.stems import Stem
from helpers import ANY, ROW, check_raises, check_wrong, keeps

ONE, TWO, THREE = Told.zero(ROW), Told.least(Row(0, 1, 0)), Told.above(Row(0, 0, Ratio(1, 2)))


class Books(unittest.TestCase):
    def test_made(self):
        check_wrong(self, Book, ("told", "tolds", []))
        for value in (ONE, [ONE, None], [ROW], (ONE, [TWO]), {ONE.kind: ONE}, str(Book([ONE]))):
            check_raises(self, BadBook("told"), Book, value)
        self.assertEqual(Book().told, ())
        self.assertEqual(Book(told=[ONE, TWO]).told, (ONE, TWO))
        self.assertIs(type(Book([ONE]).told), tuple)
        self.assertEqual(Book.MOST, 40)
        for many in (0, 39, 40):
            self.assertEqual(len(Book([ONE] * many)), many)
        for many in (41, 100):
            check_raises(self, TooMany("told", 40), Book, [ONE] * many)
        check_raises(self, BadBook("told"), Book, [ONE] * 41 + [None])

    def test_copied(self):
        told = [ONE]
        book = Book(told)
        told.append(TWO)
        self.assertEqual(book.told, (ONE,))

    def test_iterated(self):
        self.assertEqual(list(Book([TWO, ONE, TWO])), [TWO, ONE, TWO])
        self.assertEqual(list(Book()), [])
        self.assertEqual(len(Book([TWO, ONE, TWO])), 3)

    def test_kept_by(self):
        stems = [Stem(0, Ratio(1, 3)), Stem(0, 1), Stem(Ratio(1, 2), 1), Stem(-1, 2), Stem(Ratio(1, 2), Ratio(1, 3))]
        tolds = [ONE, TWO, THREE, Told.least(Row(-1, 0, 1)), Told.above(Row(0, 1, 0))]
        for stem in stems:
            self.assertIs(stem in Book(), True)
            for one, other in itertools.product(tolds, tolds):
                self.assertIs(stem in Book([one, other]), keeps(stem, [one, other]))
        for value in ANY:
            if not isinstance(value, Stem):
                self.assertIs(value in Book(), False)

    def test_new_books(self):
        book = Book([ONE, TWO])
        self.assertEqual(book.with_told(ONE), Book([ONE, TWO, ONE]))
        self.assertEqual([book.without(0), book.without(1)], [Book([TWO]), Book([ONE])])
        self.assertEqual(Book([ONE, TWO, ONE]).without(2), book)
        self.assertEqual(book.joined(Book([THREE, ONE])), Book([ONE, TWO, THREE, ONE]))
        self.assertEqual(book.joined(Book()), book)
        self.assertEqual(book, Book([ONE, TWO]))

    def test_new_books_refuse(self):
        book = Book([ONE, TWO])
        check_wrong(self, book.with_told, ("told", "told", ONE))
        check_wrong(self, book.joined, ("other", "book", book))
        for value in ANY + [2, -1, -2, 10 ** 40]:
            if type(value) is not int or value not in (0, 1):
                check_raises(self, NoTold(value), book.without, value)
        check_raises(self, NoTold(0), Book().without, 0)
        full = Book([ONE] * 40)
        check_raises(self, TooMany("told", 40), full.with_told, TWO)
        check_raises(self, BadTold("told"), full.with_told, None)
        check_raises(self, TooMany("told", 40), full.joined, Book([ONE]))
        check_raises(self, BadBook("other"), full.joined, [ONE])
        self.assertEqual(len(full.joined(Book())), 40)
        self.assertEqual(len(Book([ONE] * 39).with_told(TWO)), 40)

    def test_equal(self):
        self.assertEqual(Book([ONE, TWO]), Book((ONE, TWO)))
        for other in (Book([TWO, ONE]), Book([ONE]), Book([ONE, TWO, TWO]), Book(), (ONE, TWO), [ONE, TWO], None):
            self.assertFalse(Book([ONE, TWO]) == other)
        for value in ANY:
            if not isinstance(value, Book):
                self.assertFalse(Book() == value)


if __name__ == "__main__":
    unittest.main()
