"""Whether books are possible, and the simplest turn; papers that are returned add up."""

import time
import unittest
from fractions import Fraction

from spiralsays.books import Book
from spiralsays.errors import Impossible, TooMany
from spiralsays.fits import (
    Kept, OneStep, Simplest, fit, need_possible, simplest_turn, with_turn_at_least, with_turn_at_most,
)
from spiralsays.papers import Denial, Paper
from spiralsays.ratios import Ratio
from spiralsays.rows import Row, Told
from spiralsays.stems import Stem
from helpers import check_raises, check_wrong, fraction, is_one_step, keeps
from some_books import A, BLUNT, BY_HAND, EVEN, MADE_UP, made_up

ALL = [book for book, _ in BY_HAND] + MADE_UP


def put_in(book, text):
    return list(book.told) + [Told.read(text)]


class Fits(unittest.TestCase):
    def check_one_step(self, told, paper):
        self.assertIs(type(paper), OneStep)
        self.assertTrue(is_one_step(told, paper))
        self.assertIs(type(paper.weights), tuple)
        for one in (*paper.weights, paper.times, paper.rest):
            self.assertIsInstance(one, Ratio)
        if paper.step is not None:
            self.assertEqual(paper.step.divisor, 1)

    def test_by_hand(self):
        for book, possible in BY_HAND:
            self.assertIs(bool(fit(book)), possible, str(book))

    def test_papers_are_right(self):
        kept = 0
        for book in ALL:
            paper = fit(book)
            if paper:
                kept += 1
                self.assertIs(type(paper), Kept)
                self.assertTrue(keeps(paper.stem, book))
            else:
                self.check_one_step(book, paper)
        self.assertGreater(kept, len(ALL) // 3)
        self.assertLess(kept, len(ALL) * 9 // 10)

    def test_called_again(self):
        for book in ALL[::7]:
            self.assertEqual(fit(book), fit(Book(list(book.told))))

    def test_further_told_ones(self):
        for book in ALL[::5]:
            if not fit(book):
                self.assertFalse(fit(book.with_told(Told.least(Row(3, 1, 2)))))

    def test_need_possible(self):
        for book in ALL[::4]:
            paper = fit(book)
            if paper:
                self.assertIsNone(need_possible(book))
            else:
                with self.assertRaises(Impossible) as caught:
                    need_possible(book)
                self.assertEqual(caught.exception.paper, paper)
                self.assertIs(type(caught.exception.paper), OneStep)
                with self.assertRaises(Impossible) as caught:
                    simplest_turn(book)
                self.assertEqual(caught.exception.paper, paper)

    def test_many_told_ones(self):
        one = Told.above(Row(-1, 0, 1))
        for many in (39, 40):
            self.assertTrue(fit(Book([one] * many)))
            self.assertFalse(fit(Book([one] * (many - 1) + [Told.above(Row(1, 0, -1))])))
        full = Book([one] * 39 + [Told.least(Row(0, 2, -1))])
        simple = simplest_turn(full)
        self.assertEqual(simple.turn, Ratio(1, 2))
        # What is put in does not count for the 40.
        self.assertEqual([len(simple.low.weights), simple.high], [41, simple.high])
        self.assertTrue(is_one_step(put_in(full, "least 0 -1 0"), simple.low))
        self.assertTrue(is_one_step(put_in(full, "least 0 1 -1"), simple.high))

    def test_simplest(self):
        for book in ALL:
            if not fit(book):
                continue
            paper = simplest_turn(book)
            self.assertIs(type(paper), Simplest)
            self.assertIsInstance(paper.turn, Ratio)
            self.assertEqual(paper.stem.turn, paper.turn)
            self.assertTrue(keeps(paper.stem, book))
            turn = fraction(paper.turn)
            if turn.denominator > 1:
                low, high = parents_of(turn)
            else:
                low, high = turn - 1 if turn > 0 else None, turn + 1 if turn < 0 else None
            for value, side, found in ((low, f"least 0 -1 {low}", paper.low), (high, f"least 0 1 {-high if high is not None else 0}", paper.high)):
                if value is None:
                    self.assertIsNone(found)
                else:
                    self.check_one_step(put_in(book, side), found)

    def test_simplest_turns(self):
        for text, due in (
            ("-", "0"), ("above 0 1 -2", "3"), ("least 0 1 -2", "2"), ("above 0 -1 -2", "-3"), ("least 0 -1 -2", "-2"),
            ("above 0 1 0 , above 0 -1 1", "1/2"), ("above 0 1 -1/3 , above 0 -1 1/2", "2/5"), ("above 0 1 1 , above 0 -1 0", "-1/2"),
            ("zero 0 7 100", "-100/7"), ("least 0 1 -141/100 , least 0 -1 71/50", "17/12"), ("zero -1 0 1/2 , above 0 1 -7071/10000", "239/338"),
            ("above 0 1 0 , above 0 -1 1/1000000000000", "1/1000000000001"), (f"least 0 1 -{10 ** 50}", f"{10 ** 50}"),
            ("least 0 -1 1/2 , least 0 1 1/2", "0"), ("least 0 1 -5/2 , least 0 -1 7/2", "3"), ("least 0 1 7/2 , least 0 -1 -5/2", "-3"),
        ):
            self.assertEqual(str(simplest_turn(Book.read(text)).turn), due, text)

    def test_turns_put_in(self):
        for call, row in ((with_turn_at_most, Row(0, -1, Ratio(2, 5))), (with_turn_at_least, Row(0, 1, Ratio(-2, 5)))):
            self.assertEqual(call(EVEN, Ratio(2, 5)), EVEN.with_told(Told.least(row)))
            check_wrong(self, call, ("book", "book", EVEN), ("ratio", "ratio", 0))
            full = Book(list(EVEN.told) * 40)
            check_raises(self, TooMany("told", 40), call, full, 1)
            self.assertRaisesRegex(ValueError, "^ratio$", call, full, None)

    def test_wrong(self):
        for call in (fit, need_possible, simplest_turn):
            check_wrong(self, call, ("book", "book", EVEN))

    def test_classes(self):
        stem = Stem(0, 1)
        for paper, word, parts, base in (
            (Kept([stem]), "kept", ((stem,),), Paper), (Simplest(1, None, low=[2], high=True), "simplest", (1, None, (2,), True), Paper),
            (OneStep([1, [0]], A, times=1, rest=None), "onestep", ((1, (0,)), A, 1, None), Denial),
        ):
            self.assertEqual((paper.word, paper.parts), (word, parts))
            self.assertIs(isinstance(paper, Denial), base is Denial)
            self.assertIs(bool(paper), base is Paper)
            self.assertEqual(type(paper).__bases__, (base,))
        self.assertEqual((Simplest(1, 2, 3, 4).turn, Simplest(1, 2, 3, 4).stem), (1, 2))
        self.assertEqual((Simplest(1, 2, 3, 4).low, Simplest(1, 2, 3, 4).high, Kept(5).stem), (3, 4, 5))

    def test_short_time(self):
        begin = time.time()
        for book in made_up(5, 3, 8):
            told = Book((list(book.told) * 20)[:20])
            fit(told)
            if fit(told):
                simplest_turn(told)
        narrow = Book.read("least 0 1 -1234567890123456/9876543210987653 , least 0 -1 1234567890123457/9876543210987655")
        self.assertTrue(simplest_turn(narrow).low is not None)
        self.assertLess(time.time() - begin, 20)

    def test_blunt(self):
        paper = fit(BLUNT)
        self.assertEqual(paper.step.corner, Ratio(1, 3))


def parents_of(value):
    """The two near fractions of which a fraction is the mediant."""
    bottom = pow(value.numerator, -1, value.denominator)
    top = (value.numerator * bottom - 1) // value.denominator
    high = (value.numerator - top, value.denominator - bottom)
    assert high[0] * bottom - top * high[1] == 1
    return Fraction(top, bottom), Fraction(*high)


if __name__ == "__main__":
    unittest.main()
