"""Between which ratios a row lies; papers and stems reckoned without the program."""

import random
import time
import unittest
from fractions import Fraction

from spiralsays.books import Book
from spiralsays.errors import BadNumber, Impossible
from spiralsays.farey import next_above
from spiralsays.fits import OneStep, fit
from spiralsays.papers import Paper
from spiralsays.ratios import Ratio
from spiralsays.rows import Row, Told
from spiralsays.steps import Step
from spiralsays.tight import Tight, tightest
from helpers import check_raises, check_wrong, fraction, keeps, ratio, up_to, worth
from papers_by_hand import denies
from some_books import BLUNT, BY_HAND, EVEN, FLAT, MADE_UP, made_up

POSSIBLE = [book for book in [book for book, _ in BY_HAND] + MADE_UP[::12] if fit(book)]
TURN, SQUARED = Row(0, 1, 0), Row(1, 0, 0)


def next_ratio(value, most):
    """The least fraction above one, of a bottom up to most, found by trying all bottoms."""
    return min(Fraction((value * bottom).__floor__() + 1, bottom) for bottom in range(1, most + 1))


def some_asked():
    chance = random.Random(6)
    rows = [TURN, SQUARED, -TURN, -SQUARED, Row(0, 0, Ratio(2, 7)), Row(0, 0, 0), Row(1, -2, 1), Row(-1, 3, Ratio(1, 2)), Row(Ratio(1, 3), 0, 5)]
    asked = [(book, row, bottom) for book in (Book(), EVEN, FLAT) for row in rows for bottom in (1, 2, 7)]
    for book in POSSIBLE:
        asked.append((book, TURN, chance.choice([1, 3, 30])))
        asked.append((book, Row(chance.randint(-2, 2), chance.randint(-3, 3), ratio(Fraction(chance.randint(-9, 9), 7))), chance.choice([1, 2, 5, 12, 40])))
    return asked


ASKED = some_asked()


def at(row, stem):
    return worth(Told.zero(row), stem)


class Tights(unittest.TestCase):
    def check_low(self, book, row, bottom, low, paper, stem):
        self.assertTrue(keeps(stem, book))
        if low is None:
            self.assertIsNone(paper)
            # As far below as you like.
            for far in (1, 10 ** 6, 10 ** 12):
                self.assertTrue(fit(book.with_told(Told.above(Row(0, 0, -far) - row))))
            return
        self.assertIs(type(low), Ratio)
        self.assertLessEqual(low.bottom, bottom)
        self.assertTrue(denies([*book, Told.above(Row(0, 0, low) - row)], paper))
        self.assertLess(at(row, stem), next_ratio(fraction(low), bottom))

    def check(self, book, row, bottom):
        paper = tightest(book, row, bottom)
        self.assertIs(type(paper), Tight)
        self.check_low(book, row, bottom, paper.low, paper.low_paper, paper.low_stem)
        high = None if paper.high is None else -paper.high
        self.check_low(book, -row, bottom, high, paper.high_paper, paper.high_stem)
        return paper

    def test_papers_are_right(self):
        sides = [0, 0, 0]
        for book, row, bottom in ASKED:
            paper = self.check(book, row, bottom)
            sides[[paper.low, paper.high].count(None)] += 1
        self.assertGreater(min(sides), 10)

    def test_by_hand(self):
        for text, row, bottom, low, high in (
            ("-", "0 1 0", 5, None, None), ("-", "1 0 0", 5, "0", None), ("-", "-1 0 0", 5, None, "0"), ("-", "1 -2 0", 5, "-1", None),
            ("-", "1 -1 0", 3, "-1/3", None), ("-", "1 -1 0", 4, "-1/4", None), ("-", "1 -1 0", 1, "-1", None), ("-", "0 0 1/3", 1, "0", "1"),
            ("-", "0 0 1/3", 3, "1/3", "1/3"), ("-", "0 0 -7/3", 2, "-5/2", "-2"), ("-", "0 0 4", 9, "4", "4"),
            # Ends that are roots, and both at one stem.
            ("least -1 0 2", "0 1 0", 12, "-17/12", "17/12"), ("least -1 0 2", "0 1 0", 1, "-2", "2"), ("zero -1 0 2", "0 1 0", 5, "-3/2", "3/2"),
            ("zero 1 0 -1/7 , zero 0 1 -5/14", "0 1 0", 14, "5/14", "5/14"), ("zero 1 0 -1/7 , zero 0 1 -5/14", "0 1 0", 13, "1/3", "4/11"),
            # D has an end on one side, on both, by a zero row; where E has none a row with an E says nothing of D.
            ("least 0 1 -1/2", "0 1 0", 4, "1/2", None), ("above 0 -2 1", "0 1 0", 4, None, "1/2"), ("zero 0 3 -1", "0 1 0", 4, "1/3", "1/3"),
            ("zero 0 3 -1", "1 0 0", 4, "0", None), ("zero 0 3 -1", "1 0 0", 9, "1/9", None), ("least 1 1 0", "0 1 0", 4, None, None),
            ("least 0 1 -1/2", "1 0 0", 4, "1/4", None), ("zero 0 0 0", "0 1 0", 4, None, None), ("zero 1 -1 0", "0 1 0", 4, "0", "1"),
            ("zero 1 -1 0", "1 0 0", 4, "0", "1"), ("above 0 1 0 , above 0 -1 1/1000000", "0 1 0", 1000, "0", "1/1000"),
            ("above 0 1 5 , above 0 -1 -4", "0 1 1/2", 1, "-5", "-3"),
        ):
            paper = self.check(Book.read(text), Row.read(row), bottom)
            self.assertEqual([None if end is None else str(end) for end in (paper.low, paper.high)], [low, high], (text, row, bottom))

    def test_great_bottoms(self):
        flat = Book.read("least -1 0 1/2")
        paper = self.check(flat, TURN, 1000)
        self.assertEqual((str(paper.low), str(paper.high)), ("-577/816", "577/816"))
        self.check(Book.read("zero 0 1 -1/1000"), TURN, 1000)
        self.check(Book.read("zero 0 1 -1/1001"), TURN, 1000)
        self.check(Book.read(f"zero 0 1 -{10 ** 16 - 1}/{10 ** 15 + 7}"), TURN, 999)

    def test_next_ratio(self):
        for most in (1, 2, 5, 12):
            for bottom in range(1, most + 1):
                for top in range(-2 * bottom, 3 * bottom):
                    self.assertEqual(fraction(next_above(Ratio(top, bottom), most)), next_ratio(Fraction(top, bottom), most))

    def test_wrong(self):
        for book in (EVEN, BLUNT):
            check_wrong(self, tightest, ("book", "book", book), ("row", "row", TURN), ("bottom", up_to(1, 1000), 7))
        for bottom in (0, -1, 1001, 10 ** 30):
            check_raises(self, BadNumber("bottom"), tightest, BLUNT, TURN, bottom)
        for book in [book for book, possible in BY_HAND if not possible]:
            check_raises(self, Impossible(fit(book)), tightest, book, TURN, 3)

    def test_again(self):
        for book, row, bottom in ASKED[::20]:
            self.assertEqual(tightest(book, row, bottom), tightest(Book(list(book.told)), Row(row.a, row.b, row.c), bottom))

    def test_class(self):
        stem = fit(EVEN).stem
        paper = Tight(1, None, OneStep([], None, 0, 1), high_paper=[2], low_stem=stem, high_stem=4)
        self.assertEqual((paper.word, paper.parts), ("tight", (1, None, OneStep([], None, 0, 1), (2,), stem, 4)))
        self.assertEqual((paper.low, paper.high, paper.low_paper, paper.high_paper, paper.low_stem, paper.high_stem), paper.parts)
        self.assertEqual((type(paper).__bases__, bool(paper)), ((Paper,), True))

    def test_short_time(self):
        begin = time.time()
        for book in made_up(25, 6, 8):
            full = Book((list(book.told) * 20)[:20])
            if fit(full):
                self.check(full, Row(Ratio(12345678, 87654321), Ratio(-99999999, 12345677), 1), 1000)
                self.check(full, Row.of_square(Step(60, 59)), 997)
        self.assertLess(time.time() - begin, 20)


if __name__ == "__main__":
    unittest.main()
