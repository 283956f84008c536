"""Mirrored, and with rounds put on: by the numbers that the document tells, and by laying."""

import unittest

from spiralsays.books import Book
from spiralsays.carried import carried_book, carried_row, carried_saying, carried_stem, carried_told
from spiralsays.errors import BadNumber, BadSaying
from spiralsays.mirrored import mirrored, put_on
from spiralsays.ratios import Ratio
from spiralsays.rows import Row, Told
from spiralsays.sayings import LeansLeft, LeansRight, Rows
from spiralsays.stems import Stem
from spiralsays.steps import Step
from spiralsays.tables import Table
from helpers import ANY, check_raises, check_wrong
from some_sayings import A, SAYINGS
from some_tables import BOOKS, ROWS, STEMS, STEPS, TOLD, holds_at

TIMES = (0, 1, -1, 7, -3, 10 ** 12)
CARRIED = [*STEPS, *STEMS, *ROWS, *TOLD, *BOOKS, *SAYINGS]


def carried_by(value, table):
    """By the table itself."""
    for kind, call in ((Stem, carried_stem), (Row, carried_row), (Told, carried_told), (Book, carried_book)):
        if isinstance(value, kind):
            return call(value, table)
    return table.back().elder(value) if isinstance(value, Step) else carried_saying(value, table)


def as_it_comes_back(value):
    """The very same; of a saying the Rows of its told ones."""
    return Rows(value.told) if hasattr(value, "told") and not isinstance(value, Book) else value


class Mirrored(unittest.TestCase):
    def test_numbers(self):
        for step in STEPS:
            self.assertEqual(mirrored(step), Step(step.studs, -step.rounds))
        for stem in STEMS:
            self.assertEqual(mirrored(stem), Stem(-stem.turn, stem.squared))
        for row in ROWS:
            self.assertEqual(mirrored(row), Row(row.a, -row.b, row.c))
        for told in TOLD:
            self.assertEqual(mirrored(value=told), Told(told.kind, mirrored(told.row)))
        for book in BOOKS:
            self.assertEqual(mirrored(book), Book([mirrored(told) for told in book]))
        for saying in SAYINGS:
            self.assertEqual(mirrored(saying), Rows([mirrored(told) for told in saying.told]))

    def test_by_the_table(self):
        for value in CARRIED:
            new = mirrored(value)
            self.assertEqual(new, carried_by(value, Table.mirror()))
            self.assertIs(type(new), Rows if hasattr(value, "told") and not isinstance(value, Book) else type(value))

    def test_twice(self):
        for value in CARRIED:
            self.assertEqual(mirrored(mirrored(value)), as_it_comes_back(value))

    def test_holds_there_if_here(self):
        for told in TOLD:
            for stem in STEMS:
                self.assertIs(holds_at(mirrored(told), mirrored(stem)), holds_at(told, stem))
        self.assertEqual(mirrored(LeansRight(A)).told, LeansLeft(mirrored(A)).told)

    def test_wrong(self):
        check_wrong(self, mirrored, ("value", "carriable", A))


class PutOn(unittest.TestCase):
    def test_numbers(self):
        for times in TIMES:
            for step in STEPS:
                self.assertEqual(put_on(step, times), Step(step.studs, step.rounds + step.studs * times))
            for stem in STEMS:
                new = put_on(stem, times)
                self.assertEqual((new.turn, new.rise), (stem.turn + times, stem.rise))
            for row in ROWS:
                self.assertEqual(put_on(row, times), Row(row.a, row.b - row.a * (2 * times), row.c - row.b * times + row.a * (times * times)))
            for told in TOLD:
                self.assertEqual(put_on(value=told, times=times), Told(told.kind, put_on(told.row, times)))
            for book in BOOKS:
                self.assertEqual(put_on(book, times), Book([put_on(told, times) for told in book]))
            for saying in SAYINGS:
                self.assertEqual(put_on(saying, times), Rows([put_on(told, times) for told in saying.told]))

    def test_by_the_table(self):
        for value in CARRIED:
            for times in TIMES:
                self.assertEqual(put_on(value, times), carried_by(value, Table.put_on(times)))

    def test_there_and_back(self):
        for value in CARRIED:
            for times in TIMES:
                self.assertEqual(put_on(put_on(value, times), -times), as_it_comes_back(value))
            self.assertEqual(put_on(value, 0), as_it_comes_back(value))
            self.assertEqual(put_on(put_on(value, 5), 3), put_on(value, 8))

    def test_holds_there_if_here(self):
        for times in TIMES:
            for told in TOLD:
                for stem in STEMS:
                    self.assertIs(holds_at(put_on(told, times), put_on(stem, times)), holds_at(told, stem))
            self.assertEqual(put_on(LeansRight(A), times).told, LeansRight(put_on(A, times)).told)

    def test_wrong(self):
        check_wrong(self, put_on, ("value", "carriable", A), ("times", "integer", 2))
        for value in ANY[:2] + [Table.same(), Ratio(1)]:
            check_raises(self, BadSaying("value"), put_on, value, None)
        check_raises(self, BadNumber("times"), put_on, STEMS[0], Ratio(1))


if __name__ == "__main__":
    unittest.main()
