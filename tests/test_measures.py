"""Measures, rows that are enough, the cheapest ones, what is offered; papers reckoned without the program."""

import itertools
import random
import time
import unittest

from spiralsays.books import Book
from spiralsays.errors import BadBook, BadNumber, BadRow, BadSaying, BadTold, Impossible, TooMany, Unlike
from spiralsays.fits import fit
from spiralsays.measures import EnoughRows, StillBoth, enough, next_row, outcomes, told_by
from spiralsays.offers import Cheapest, Follows, cheapest, offers
from spiralsays.papers import Denial, Paper
from spiralsays.ratios import Ratio
from spiralsays.rows import Row, Told
from spiralsays.sayings import LeansRight, Rows, TurnAbove
from spiralsays.words import Always, Both, Nowhere, word_of
from choice_by_hand import (
    AT_TURN, CHOICES, FREE, IMPOSSIBLE, LESS, NEVER, ODD, R1, R2, SIGNS, SMALL, TURN, ZERO, all_outcomes, is_cheapest, is_enough, is_offers, tells,
)
from helpers import ANY, check_raises, check_wrong, is_integer, is_list_of, keeps
from papers_by_hand import is_word
from some_books import BLUNT, EVEN, MADE_UP, made_up
from some_sayings import A, SAYINGS

ROWS = (is_list_of(Row), BadRow)
MANY_ROWS = [R1, R2, TURN, LESS]


def has(stem, rows, signs):
    return keeps(stem, tells(rows, signs))


def word_there(book, saying, rows, signs):
    """The word in an outcome, by the words of the book with what it tells; None if it cannot come."""
    more = Book([*book, *tells(rows, signs)])
    return word_of(more, saying).word if fit(more) else None


class ToldBy(unittest.TestCase):
    def test_told_ones(self):
        for many in range(4):
            for signs in itertools.product(SIGNS, repeat=many):
                rows = MANY_ROWS[:many]
                found = told_by(rows, signs)
                self.assertIs(type(found), tuple)
                self.assertEqual(found, tuple(tells(rows, signs)))
                self.assertEqual(told_by(rows=tuple(rows), signs=list(signs)), found)
        self.assertEqual(told_by([ZERO] * 50, ["zero"] * 50), (Told.zero(ZERO),) * 50)

    def test_wrong(self):
        signs = lambda value: isinstance(value, (list, tuple)) and len(value) == 2 and all(one in SIGNS for one in value)
        check_wrong(self, told_by, ("rows", ROWS, [R1, R2]), ("signs", (signs, BadTold), ["below", "zero"]))
        for value in (["below"], ["below", "zero", "above"], ["below", "Zero"], ["below", None], ["below", ["zero"]], ["below", 0], "ab", "below", {"below": 1, "zero": 2}, ["below", ""]):
            check_raises(self, BadTold("signs"), told_by, [R1, R2], value)
        check_raises(self, BadTold("signs"), told_by, [], ["below"])
        check_raises(self, BadRow("rows"), told_by, [R1, None], ["below"])


class Outcomes(unittest.TestCase):
    def test_papers_are_right(self):
        most = {}
        for book, _, rows in CHOICES:
            if not fit(book):
                continue
            found = outcomes(book, rows)
            self.assertIs(type(found), tuple)
            self.assertEqual(outcomes(book=book, rows=tuple(rows)), found)
            come = [signs for signs, _ in found]
            self.assertEqual(come, [signs for signs in all_outcomes(len(rows)) if fit(Book([*book, *tells(rows, signs)]))])
            for signs, stem in found:
                self.assertIs(type(signs), tuple)
                self.assertTrue(keeps(stem, book) and has(stem, rows, signs))
            most[len(rows)] = max(most.get(len(rows), 0), len(come))
        self.assertEqual(most[0], 1)
        for many, due in zip(range(1, 5), (3, 9, 19, 33)):
            self.assertLessEqual(most.get(many, 0), due)

    def test_as_many_as_can_come(self):
        lines = [Row(0, 1, 0), Row(1, 0, -1), Row(1, 2, -2), Row(1, -3, Ratio(-3, 2))]
        self.assertEqual([len(outcomes(Book(), lines[:many])) for many in range(5)], [1, 3, 9, 19, 33])

    def test_each_stem_has_one(self):
        for book, _, rows in CHOICES[::3]:
            paper = fit(book)
            if paper:
                signs = [signs for signs in all_outcomes(len(rows)) if has(paper.stem, rows, signs)]
                self.assertEqual(len(signs), 1)
                self.assertIn(signs[0], [one for one, _ in outcomes(book, rows)])

    def test_equal_rows_and_trifles(self):
        self.assertEqual([signs for signs, _ in outcomes(Book(), [R1, R1])], [(sign, sign) for sign in SIGNS])
        self.assertEqual([signs for signs, _ in outcomes(Book(), [ZERO, R1])], [("zero", sign) for sign in SIGNS])
        self.assertEqual([signs for signs, _ in outcomes(Book(), [])], [()])
        self.assertEqual([signs for signs, _ in outcomes(Book(), [R1, -R1])], [("below", "above"), ("zero", "zero"), ("above", "below")])
        self.assertEqual([signs for signs, _ in outcomes(EVEN, [Row(-5, 2, 0), Row(0, 1, 0), Row(1, 0, 0)])], [("zero", "above", "above")])

    def test_wrong(self):
        check_wrong(self, outcomes, ("book", "book", AT_TURN), ("rows", ROWS, [R1]))
        for book in IMPOSSIBLE[:8]:
            check_raises(self, Impossible(fit(book)), outcomes, book, [R1] * 5)
        full = Book(FREE[:7])
        check_raises(self, TooMany("rows", 4), outcomes, full, [R1] * 5)
        check_raises(self, TooMany("told", 6), outcomes, full, [R1] * 4)
        check_raises(self, TooMany("told", 6), outcomes, full, [])
        self.assertEqual(len(outcomes(Book(FREE[:6]), [R1] * 4)), 3)


class Enough(unittest.TestCase):
    def test_papers_are_right(self):
        words = {}
        for book, saying, rows in CHOICES:
            if not fit(book):
                check_raises(self, Impossible(fit(book)), enough, book, saying, rows)
                continue
            paper = enough(book, saying, rows)
            self.assertIn(type(paper), (EnoughRows, StillBoth))
            self.assertTrue(is_enough(book, saying, rows, paper), (str(book), str(saying)))
            self.assertEqual(enough(book=book, saying=saying, rows=list(rows)), paper)
            there = [word_there(book, saying, rows, signs) for signs in all_outcomes(len(rows))]
            if paper:
                self.assertEqual([{"onestep": None}.get(one.word, one.word) for _, one in paper.table], there)
            else:
                self.assertEqual(paper.signs, all_outcomes(len(rows))[there.index("both")])
            words[paper.word, len(rows)] = True
        self.assertGreaterEqual(len(words), 9)

    def test_no_rows(self):
        # Enough exactly if the word is not both.
        for book, saying, _ in CHOICES:
            if fit(book):
                paper = enough(book, saying, [])
                self.assertIs(bool(paper), word_of(book, saying).word != "both")
                self.assertEqual(paper.table[0][0] if paper else paper.signs, ())

    def test_own_rows_are_enough(self):
        for saying in SAYINGS:
            if len(saying.told) <= 4:
                self.assertTrue(enough(Book(), saying, [told.row for told in saying.told]))
                self.assertTrue(enough(Book(), saying, [-told.row for told in saying.told]))

    def test_more_rows(self):
        for book, saying, rows in CHOICES:
            if fit(book) and len(rows) < 3 and enough(book, saying, rows):
                self.assertTrue(enough(book, saying, [*rows, TURN]))

    def test_by_hand(self):
        self.assertEqual(enough(AT_TURN, SMALL, [R1]).signs, ("below",))
        self.assertEqual([paper.word for _, paper in enough(AT_TURN, SMALL, [R2]).table], ["always", "nowhere", "nowhere"])
        self.assertEqual([paper.word for _, paper in enough(AT_TURN, SMALL, [ZERO, R2]).table], ["onestep"] * 3 + ["always", "nowhere", "nowhere"] + ["onestep"] * 3)
        self.assertEqual(len(enough(AT_TURN, SMALL, MANY_ROWS).table), 81)

    def test_wrong(self):
        check_wrong(self, enough, ("book", "book", AT_TURN), ("saying", "saying", SMALL), ("rows", ROWS, [R1]))
        full = Book(FREE[:7])
        for book in (BLUNT, ODD):
            check_raises(self, Impossible(fit(book)), enough, book, SMALL, [R1] * 5)
        check_raises(self, TooMany("rows", 4), enough, full, SMALL, [R1] * 5)
        check_raises(self, TooMany("told", 6), enough, full, SMALL, [R1] * 4)
        check_raises(self, BadRow("rows"), enough, BLUNT, SMALL, [R1] * 5 + [None])

    def test_classes(self):
        for paper, word, names, base in (
            (EnoughRows(table=[[(), None]]), "enoughrows", {"table": (((), None),)}, Paper), (StillBoth(signs=["zero"], kept=1, broken=2), "stillboth", {"signs": ("zero",), "kept": 1, "broken": 2}, Denial),
            (Cheapest(numbers=[1], price=2, paper=None), "cheapest", {"numbers": (1,), "price": 2, "paper": None}, Paper),
            (Follows(always=[], nowhere=[[0, 1]], both=3), "follows", {"always": (), "nowhere": ((0, 1),), "both": 3}, Paper),
        ):
            self.assertEqual((paper.word, paper.parts, type(paper).__bases__, bool(paper)), (word, tuple(names.values()), (base,), base is Paper))
            self.assertEqual({name: getattr(paper, name) for name in names}, names)

    def test_short_time(self):
        begin = time.time()
        chance = random.Random(4)
        for book in made_up(78, 12, 8):
            book = Book(book.told[:6])
            if fit(book):
                rows = [chance.choice(MADE_UP).told[0].row for _ in range(4)]
                paper = enough(book, Rows([told for rows in MADE_UP[:6] for told in rows.told][:40]), rows)
                self.assertIn(paper.word, ("enoughrows", "stillboth"))
        self.assertTrue(enough(Book(FREE[:6]), LeansRight(A), [Row.of_lean(A), *MANY_ROWS[:3]]))
        self.assertLess(time.time() - begin, 10)


class NextRow(unittest.TestCase):
    def test_by_words(self):
        seen = {}
        for book, saying, rows in CHOICES:
            if not rows:
                check_raises(self, BadRow("rows"), next_row, book, saying, rows)
                continue
            if not fit(book):
                check_raises(self, Impossible(fit(book)), next_row, book, saying, rows)
                continue
            left = [sum(word_there(book, saying, [row], (sign,)) == "both" for sign in SIGNS) for row in rows]
            found = next_row(book, saying, rows)
            self.assertEqual(found, (left.index(min(left)), min(left)))
            self.assertTrue(type(found) is tuple and all(type(one) is int for one in found))
            self.assertEqual(next_row(book=book, saying=saying, rows=tuple(rows)), found)
            seen[found[1]] = True
        self.assertGreaterEqual(len(seen), 3)

    def test_by_hand(self):
        self.assertEqual(next_row(AT_TURN, SMALL, [R1, R2]), (1, 0))
        self.assertEqual(next_row(AT_TURN, SMALL, [R1, R1]), (0, 1))
        self.assertEqual(next_row(AT_TURN, SMALL, [ZERO, R1, R2, R2]), (2, 0))
        self.assertEqual(next_row(Book(), TurnAbove(0), [R1]), (0, 3))

    def test_wrong(self):
        check_wrong(self, next_row, ("book", "book", AT_TURN), ("saying", "saying", SMALL), ("rows", (lambda value: is_list_of(Row)(value) and len(value) > 0, BadRow), [R1]))
        full = Book(FREE[:7])
        check_raises(self, BadRow("rows"), next_row, BLUNT, SMALL, [])
        check_raises(self, Impossible(fit(BLUNT)), next_row, BLUNT, SMALL, [R1] * 5)
        check_raises(self, TooMany("rows", 4), next_row, full, SMALL, [R1] * 5)
        check_raises(self, TooMany("told", 6), next_row, full, SMALL, [R1])


class Prices(unittest.TestCase):
    def test_papers_are_right(self):
        chance = random.Random(5)
        words = {}
        for book, saying, rows in CHOICES:
            if not fit(book):
                continue
            for prices in ([chance.choice([0, 1, 2, 5]) for _ in rows], [3] * len(rows), [0] * len(rows)):
                paper = cheapest(book, saying, rows, prices)
                self.assertTrue(is_cheapest(book, saying, rows, prices, paper))
                self.assertEqual(cheapest(book=book, saying=saying, rows=tuple(rows), prices=tuple(prices)), paper)
                words[paper.word] = words.get(paper.word, 0) + 1
                if paper.word == "stillboth":
                    self.assertEqual(paper, enough(book, saying, rows))
                    continue
                self.assertIs(type(paper), Cheapest)
                self.assertIs(type(paper.price), int)
                # No set of less price is enough; of this price none ahead of it.
                for many in range(len(rows) + 1):
                    for numbers in itertools.combinations(range(len(rows)), many):
                        price = sum(prices[number] for number in numbers)
                        ahead = (price, many, numbers) < (paper.price, len(paper.numbers), paper.numbers)
                        if ahead:
                            self.assertFalse(enough(book, saying, [rows[number] for number in numbers]))
        self.assertGreater(min(words.values()), 20)

    def test_by_hand(self):
        for rows, prices, numbers, price in (
            ([R1, R2], [0, 5], (1,), 5), ([R2, R2], [7, 7], (0,), 7), ([R2, R2], [7, 3], (1,), 3), ([R2, R1, R2], [0, 0, 0], (0,), 0), ([R1, R2], [0, 0], (1,), 0),
            ([R2, LESS], [10 ** 30, 10 ** 29], (1,), 10 ** 29), ([R1, ZERO, R2, TURN], [1, 1, 1, 1], (2,), 1),
        ):
            found = cheapest(AT_TURN, SMALL, rows, prices)
            self.assertEqual((found.numbers, found.price), (numbers, price))
        self.assertEqual(cheapest(AT_TURN, LeansRight(A), [R1], [0]).numbers, ())
        self.assertEqual(cheapest(AT_TURN, LeansRight(A), [], []).numbers, ())
        self.assertEqual(cheapest(AT_TURN, SMALL, [], []).signs, ())
        self.assertEqual(cheapest(AT_TURN, SMALL, [R1], [1]).word, "stillboth")
        # Two told ones, a row for each: only both together are enough.
        far = Row(1, 0, -1)
        both = Rows([Told.above(far), Told.above(TURN)])
        self.assertEqual(cheapest(Book(), both, [TURN, ZERO, far], [4, 0, 4]).numbers, (0, 2))

    def test_wrong(self):
        prices = lambda value: isinstance(value, (list, tuple)) and all(is_integer(one) and one >= 0 for one in value)
        check_wrong(self, cheapest, ("book", "book", AT_TURN), ("saying", "saying", SMALL), ("rows", ROWS, [R1]), ("prices", (prices, BadNumber), [1]))
        for value in ([-1], [True], [Ratio(1)], [None], ["1"], [1, -1], 1, None, "1", {1: 1}):
            check_raises(self, BadNumber("prices"), cheapest, BLUNT, SMALL, [R1] * 5, value)
        for value in ([], [1, 1], [1] * 6):
            check_raises(self, Unlike("prices"), cheapest, BLUNT, SMALL, [R1] * 5, value)
        check_raises(self, Impossible(fit(BLUNT)), cheapest, BLUNT, SMALL, [R1] * 5, [1] * 5)
        full = Book(FREE[:7])
        check_raises(self, TooMany("rows", 4), cheapest, full, SMALL, [R1] * 5, [1] * 5)
        check_raises(self, TooMany("told", 6), cheapest, full, SMALL, [R1], [1])
        check_raises(self, BadSaying("saying"), cheapest, BLUNT, None, None, None)
        check_raises(self, BadBook("book"), cheapest, None, None, None, None)

    def test_short_time(self):
        begin = time.time()
        paper = cheapest(Book(FREE[:6]), Rows([Told.above(LESS), *[Told.least(Row(0, 0, one)) for one in range(39)]]), [R1, R2, TURN, LESS], [1, 2, 3, 9])
        self.assertEqual((paper.numbers, paper.price), ((3,), 9))
        self.assertLess(time.time() - begin, 8)


class Offers(unittest.TestCase):
    def test_papers_are_right(self):
        chance = random.Random(7)
        told = [one for book in MADE_UP[:60] for one in book]
        for book in [Book(), AT_TURN, EVEN, Book(FREE[:12])] + [book for book in MADE_UP[::40] if fit(book)]:
            for many in (0, 1, 6):
                asked = [chance.choice(told + list(book.told)) for _ in range(many)]
                found = offers(book, asked)
                self.assertIs(type(found), Follows)
                self.assertTrue(is_offers(book, asked, found))
                self.assertEqual(offers(book=book, told=tuple(asked)), found)
                for pairs, word in zip(found.parts, ("always", "nowhere", "both")):
                    for number, paper in pairs:
                        self.assertEqual(word_of(book, Rows([asked[number]])).word, word)
                        self.assertTrue(is_word(book.told, [asked[number]], paper))
                        self.assertIn(type(paper), (Always, Nowhere, Both))

    def test_what_is_told_is_always(self):
        found = offers(EVEN, [*EVEN.told, *EVEN.told, NEVER])
        self.assertEqual([[number for number, _ in part] for part in found.parts], [[0, 1], [2], []])
        self.assertEqual(offers(Book(), []), Follows([], [], []))

    def test_forty(self):
        one = Told.least(Row(1, 0, 0))
        self.assertEqual(len(offers(AT_TURN, [one] * 40).always), 40)
        check_raises(self, TooMany("told", 40), offers, AT_TURN, [one] * 41)
        check_raises(self, Impossible(fit(BLUNT)), offers, BLUNT, [one] * 41)

    def test_wrong(self):
        check_wrong(self, offers, ("book", "book", AT_TURN), ("told", (is_list_of(Told), BadTold), [NEVER]))
        check_raises(self, BadTold("told"), offers, BLUNT, [NEVER] * 41 + [None])
        for book in IMPOSSIBLE:
            check_raises(self, Impossible(fit(book)), offers, book, [])
        for value in ANY[:5]:
            check_raises(self, BadTold("told"), offers, BLUNT, [NEVER, value])


if __name__ == "__main__":
    unittest.main()
