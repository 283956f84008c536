"""Thinned out and made thick: by the numbers that the document tells, and by laying."""

import unittest

from spiralsays.books import Book
from spiralsays.errors import BadNumber, BadSaying
from spiralsays.fits import fit
from spiralsays.laid import place
from spiralsays.ratios import Ratio
from spiralsays.rows import Row, Told
from spiralsays.sayings import AsLong, Blunt, LeansRight, RightAngle, Rows, Sharp, Shorter, TurnIs
from spiralsays.stems import Stem
from spiralsays.steps import Step
from spiralsays.tables import Table
from spiralsays.thinned import thick, thinned
from spiralsays.words import word_of
from helpers import ANY, check_raises, check_wrong, is_a
from some_sayings import A, B, SAYINGS
from some_tables import BOOKS, ROWS, STEMS, STEPS, TOLD, holds_at, product_at

MANY = (1, 2, 3, 12, 10 ** 12)
STRETCHED = [*STEMS, *ROWS, *TOLD, *BOOKS, *SAYINGS]


def as_it_comes_back(value):
    return Rows(value.told) if hasattr(value, "told") and not isinstance(value, Book) else value


class Thinned(unittest.TestCase):
    def test_numbers(self):
        for many in MANY:
            for stem in STEMS:
                self.assertEqual(thinned(stem, many), Stem(stem.turn * many, stem.squared * (many * many)))
                self.assertEqual(thick(stem, many), Stem(stem.turn * Ratio(1, many), stem.squared * Ratio(1, many * many)))
            for row in ROWS:
                self.assertEqual(thinned(row, many), Row(row.a * Ratio(1, many * many), row.b * Ratio(1, many), row.c))
                self.assertEqual(thick(row, many), Row(row.a * (many * many), row.b * many, row.c))
            for call in (thinned, thick):
                for told in TOLD:
                    self.assertEqual(call(value=told, many=many), Told(told.kind, call(told.row, many)))
                for book in BOOKS:
                    self.assertEqual(call(book, many), Book([call(told, many) for told in book]))
                for saying in SAYINGS:
                    self.assertEqual(call(saying, many), Rows([call(told, many) for told in saying.told]))
                    self.assertIs(type(call(saying, many)), Rows)
            for step in STEPS + [Step.one_round()]:
                self.assertEqual(thick(step, many), Step(step.studs * many, step.rounds))

    def test_squares_and_products(self):
        # A step of the thinned post is the elder one with so many times the studs.
        for many in MANY:
            for stem in STEMS:
                new = thinned(stem, many)
                for one, other in zip(STEPS, STEPS[4:]):
                    self.assertEqual(product_at(new, one, other), product_at(stem, thick(one, many), thick(other, many)))
                    self.assertEqual(thick(Row.of_product(one, other), many), Row.of_product(thick(one, many), thick(other, many)))
                    for kind in (Shorter, AsLong, Sharp, RightAngle, Blunt):
                        self.assertEqual(thick(kind(one, other), many).told, kind(thick(one, many), thick(other, many)).told)

    def test_studs(self):
        for many in (1, 2, 3, 12):
            for stem in STEMS[:8]:
                self.assertEqual([place(thinned(stem, many), stud) for stud in range(-4, 9)], [place(stem, many * stud) for stud in range(-4, 9)])

    def test_there_and_back(self):
        for value in STRETCHED:
            for many in MANY:
                self.assertEqual(thick(thinned(value, many), many), as_it_comes_back(value))
                self.assertEqual(thinned(thick(value, many), many), as_it_comes_back(value))
            self.assertEqual(thinned(value, 1), as_it_comes_back(value))
            self.assertEqual(thinned(thinned(value, 3), 4), thinned(value, 12))

    def test_holds_there_if_here(self):
        for many in MANY:
            for told in TOLD:
                for stem in STEMS:
                    self.assertIs(holds_at(thinned(told, many), thinned(stem, many)), holds_at(told, stem))
                    self.assertIs(holds_at(thick(told, many), thick(stem, many)), holds_at(told, stem))

    def test_words_stay(self):
        for number, book in enumerate(BOOKS):
            paper = fit(book)
            for many in (2, 12):
                self.assertIs(bool(fit(thinned(book, many))), bool(paper))
                if paper:
                    for saying in SAYINGS[number % 5::23]:
                        self.assertEqual(word_of(thinned(book, many), thinned(saying, many)).word, word_of(book, saying).word)

    def test_wrong(self):
        check_wrong(self, thinned, ("value", "stretchable", STEMS[0]), ("many", "many", 2))
        check_wrong(self, thick, ("value", (lambda value: isinstance(value, Step) or is_a((Stem, Row, Told, Book, type(SAYINGS[0]).__bases__[0]))(value), BadSaying), A), ("many", "many", 2))
        for value in STEPS[:3] + [Table.same(), None]:
            check_raises(self, BadSaying("value"), thinned, value, 2)
            check_raises(self, BadSaying("value"), thinned, value, None)
        for value in ANY[:3] + [0, -1, Ratio(2), "2"]:
            for call in (thinned, thick):
                check_raises(self, BadNumber("many"), call, TurnIs(0), value)
            check_raises(self, BadNumber("many"), thick, B, value)
        self.assertEqual(thinned(LeansRight(A), 3), Rows([Told.above(Row(0, 1, -1))]))


if __name__ == "__main__":
    unittest.main()
