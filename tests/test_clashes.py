"""Told ones that clash, and those that are struck; papers reckoned without the program."""

import time
import unittest

from spiralsays.books import Book
from spiralsays.clashes import Clash, clash
from spiralsays.errors import BadNumber, TooMany
from spiralsays.fits import Kept, fit
from spiralsays.papers import Denial, Paper
from spiralsays.ratios import Ratio
from spiralsays.strikes import NotStruck, Struck, strikes
from helpers import check_raises, check_wrong, keeps, up_to
from choice_by_hand import BOOKS, FREE, IMPOSSIBLE, NEVER, ODD, TWICE, all_sets, but, is_clash, is_strikes, only, placed_among
from some_books import BLUNT, made_up


def possible(told):
    """By a stem that keeps them, looked at here; for an impossible one fit has a sum that test_fits looks at."""
    paper = fit(Book(told))
    return bool(paper) and keeps(paper.stem, told)


class Clashes(unittest.TestCase):
    def test_papers_are_right(self):
        sizes = {}
        for book in BOOKS:
            paper = clash(book)
            self.assertTrue(is_clash(book, paper), str(book))
            self.assertEqual(clash(book=book), paper)
            if fit(book):
                self.assertEqual((type(paper), paper), (Kept, fit(book)))
                continue
            self.assertIs(type(paper), Clash)
            sizes[len(paper.numbers)] = sizes.get(len(paper.numbers), 0) + 1
            # No set ahead of it clashes.
            sets = all_sets(len(book), 3)
            for one in sets[:sets.index(paper.numbers)]:
                self.assertTrue(possible(only(book, one)))
        self.assertEqual(sorted(sizes), [1, 2, 3])
        self.assertGreater(min(sizes.values()), 2)

    def test_by_hand(self):
        for book, numbers in (
            (ODD, (0, 1, 2)), (TWICE, (0, 1)), (Book(ODD.told + (NEVER,)), (3,)), (Book(ODD.told + TWICE.told), (1, 3)), (Book([NEVER] * 12), (0,)),
            (placed_among(ODD.told, 12), (4, 5, 6)), (Book(ODD.told * 2), (0, 1, 2)), (BLUNT, (0, 1)), (Book(FREE[:3] + [NEVER]), (3,)),
        ):
            self.assertEqual(clash(book).numbers, numbers)

    def test_many_told_ones(self):
        self.assertEqual(clash(placed_among([NEVER], 12)).numbers, (5,))
        for told in ([NEVER] * 13, FREE + [NEVER], [*BLUNT, *FREE], [NEVER] * 40):
            check_raises(self, TooMany("told", 12), clash, Book(told))
        # A possible book may have more.
        for many in (13, 40):
            book = Book((FREE * 4)[:many])
            self.assertEqual(clash(book), fit(book))

    def test_wrong(self):
        check_wrong(self, clash, ("book", "book", ODD))

    def test_classes(self):
        for paper, word, names, base in (
            (Clash(numbers=[1], paper=2), "clash", {"numbers": (1,), "paper": 2}, Paper), (Struck(numbers=[], stem=None), "struck", {"numbers": (), "stem": None}, Paper),
            (NotStruck(papers=[[1]]), "notstruck", {"papers": ((1,),)}, Denial),
        ):
            self.assertEqual((paper.word, paper.parts, type(paper).__bases__, bool(paper)), (word, tuple(names.values()), (base,), base is Paper))
            self.assertEqual({name: getattr(paper, name) for name in names}, names)

    def test_short_time(self):
        begin = time.time()
        for book in made_up(77, 40, 8):
            told = (list(book.told) + FREE)[:12]
            full = Book(told)
            if not fit(full):
                self.assertTrue(is_clash(full, clash(full)))
                self.assertTrue(is_strikes(full, 2, strikes(full, 2)))
        self.assertLess(time.time() - begin, 10)


class Strikes(unittest.TestCase):
    def test_papers_are_right(self):
        seen = {}
        for book in BOOKS:
            for most in (0, 1, 2):
                paper = strikes(book, most)
                self.assertTrue(is_strikes(book, most, paper), str(book))
                self.assertEqual(strikes(book=book, most=most), paper)
                sets = all_sets(len(book), most)
                if isinstance(paper, Struck):
                    # Without none of the sets ahead of it the book is possible.
                    for one in sets[:sets.index(paper.numbers)]:
                        self.assertFalse(fit(Book(but(book, one))))
                    self.assertTrue(possible(but(book, paper.numbers)))
                else:
                    self.assertEqual(len(paper.papers), len(sets))
                seen[most, paper.word, getattr(paper, "numbers", None) == ()] = True
        self.assertEqual(len(seen), 8)

    def test_by_hand(self):
        for book, most, numbers in (
            (ODD, 1, (0,)), (ODD, 2, (0,)), (Book(), 0, ()), (Book(), 2, ()), (TWICE, 2, (0, 2)), (Book([NEVER]), 1, (0,)), (Book([NEVER] * 2), 2, (0, 1)), (Book(FREE + [FREE[0]] * 5), 0, ()),
            (placed_among(BLUNT.told, 12), 1, (5,)), (Book(FREE[:2] + [NEVER] + FREE[2:4]), 1, (2,)),
        ):
            self.assertEqual(strikes(book, most).numbers, numbers)
        for book, most, many in ((ODD, 0, 1), (TWICE, 1, 5), (Book([NEVER] * 12), 2, 79), (Book([NEVER] * 2), 1, 3), (Book([NEVER] * 3), 2, 7)):
            self.assertEqual(len(strikes(book, most).papers), many)
        self.assertFalse(strikes(ODD, 0))

    def test_many_told_ones(self):
        for told in ([NEVER] * 13, FREE + [NEVER]):
            for most in (0, 1, 2):
                check_raises(self, TooMany("told", 12), strikes, Book(told), most)
        self.assertEqual(strikes(Book((FREE * 4)[:40]), 2), Struck((), fit(Book((FREE * 4)[:40])).stem))

    def test_more_of_them(self):
        # Told ones that clash do so with any more beside them.
        for book in IMPOSSIBLE:
            numbers = clash(book).numbers
            for number in range(len(book)):
                self.assertFalse(fit(Book(only(book, sorted({*numbers, number})))))

    def test_wrong(self):
        check_wrong(self, strikes, ("book", "book", ODD), ("most", up_to(0, 2), 1))
        for value in (3, -1, True, False, None, Ratio(1), "1", [1]):
            check_raises(self, BadNumber("most"), strikes, Book([NEVER] * 13), value)
            check_raises(self, BadNumber("most"), strikes, Book(), value)


if __name__ == "__main__":
    unittest.main()
