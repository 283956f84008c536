"""What a table carries: laid at the elder stem and at the new one."""

import unittest

from spiralsays.books import Book
from spiralsays.carried import carried_book, carried_row, carried_saying, carried_stem, carried_told
from spiralsays.errors import BadBook, BadRow, BadSaying, BadStem, BadTable, BadTold
from spiralsays.fits import fit
from spiralsays.ratios import Ratio
from spiralsays.rows import Row, Told
from spiralsays.sayings import AsLong, Blunt, LeansRight, NoLonger, RightAngle, Rows, Sharp, Shorter, TurnIs
from spiralsays.stem_nets import nets_of
from spiralsays.tables import Table
from spiralsays.words import word_of
from helpers import check_raises, check_wrong, has_net
from papers_by_hand import denies
from some_sayings import A, B, C, SAYINGS
from some_tables import BOOKS, ROWS, STEMS, STEPS, TABLES, TOLD, elder_of, holds_at, product_at, square_at, stems_of, worth_at


class Stems(unittest.TestCase):
    def test_squares_and_products(self):
        for table in TABLES:
            for stem in STEMS:
                new = carried_stem(stem, table)
                self.assertEqual(carried_stem(stem=stem, table=table), new)
                around = square_at(stem, table.around)
                for one, other in zip(STEPS, STEPS[5:] + STEPS[:5]):
                    for beside in (one, other):
                        self.assertEqual(product_at(new, one, beside), product_at(stem, elder_of(table, one), elder_of(table, beside)) / around)
                self.assertEqual(square_at(new, Table.same().around), 1)

    def test_there_and_back(self):
        for table in TABLES:
            for stem in STEMS:
                self.assertEqual(carried_stem(carried_stem(stem, table), table.back()), stem)
                self.assertEqual(carried_stem(carried_stem(stem, table.back()), table), stem)
        for stem in STEMS:
            self.assertEqual(carried_stem(stem, Table.same()), stem)

    def test_one_behind_another(self):
        for one in TABLES:
            for other in TABLES:
                for stem in STEMS[::3]:
                    self.assertEqual(carried_stem(carried_stem(stem, one), other), carried_stem(stem, one * other))

    def test_nets_stay(self):
        for table in TABLES[:12]:
            back = table.back()
            for stem in STEMS[:10]:
                new = carried_stem(stem, table)
                for net in nets_of(stem):
                    # Its steps, told by the other numbers, upward: two of them are low and high of a net there.
                    steps = [back.elder(step).upward for step in net.steps]
                    found = [one for one in nets_of(new) if all(step in one.steps for step in steps)]
                    self.assertEqual(len(found), 1)
                    self.assertTrue(has_net(new, found[0]))

    def test_wrong(self):
        check_wrong(self, carried_stem, ("stem", "stem", STEMS[0]), ("table", "table", TABLES[6]))


class RowsAndToldOnes(unittest.TestCase):
    def test_worth(self):
        for table in TABLES:
            for stem in STEMS:
                new, around = carried_stem(stem, table), square_at(stem, table.around)
                for row in ROWS:
                    self.assertEqual(worth_at(carried_row(row, table), new), worth_at(row, stem) / around)

    def test_told_ones_hold_there_if_here(self):
        seen = {True: 0, False: 0}
        for table in TABLES:
            for told in TOLD:
                new = carried_told(told, table)
                self.assertEqual((new.kind, new.row), (told.kind, carried_row(told.row, table)))
                for stem in STEMS:
                    here = holds_at(told, stem)
                    self.assertIs(holds_at(new, carried_stem(stem, table)), here)
                    seen[here] += 1
        self.assertGreater(min(seen.values()), 1000)

    def test_there_and_back(self):
        for table in TABLES:
            for told in TOLD:
                self.assertEqual(carried_told(carried_told(told, table), table.back()), told)
                self.assertEqual(carried_row(carried_row(told.row, table.back()), table), told.row)
        for row in ROWS:
            self.assertEqual(carried_row(row, Table.same()), row)

    def test_one_behind_another(self):
        for one in TABLES:
            for other in TABLES:
                for row in ROWS:
                    self.assertEqual(carried_row(carried_row(row, one), other), carried_row(row, one * other))

    def test_squares_and_products_of_carried_steps(self):
        for table in TABLES:
            back = table.back()
            for one, other in zip(STEPS, STEPS[3:]):
                self.assertEqual(carried_row(Row.of_square(one), table), Row.of_square(back.elder(one)))
                self.assertEqual(carried_row(Row.of_product(one, other), table), Row.of_product(back.elder(one), back.elder(other)))
                for kind in (Shorter, AsLong, Sharp, RightAngle, Blunt):
                    self.assertEqual(carried_saying(kind(one, other), table).told, kind(back.elder(one), back.elder(other)).told)

    def test_wrong(self):
        check_wrong(self, carried_row, ("row", "row", ROWS[5]), ("table", "table", TABLES[6]))
        check_wrong(self, carried_told, ("told", "told", TOLD[5]), ("table", "table", TABLES[6]))
        for call, due in ((carried_stem, BadStem("stem")), (carried_row, BadRow("row")), (carried_told, BadTold("told")), (carried_book, BadBook("book")), (carried_saying, BadSaying("saying"))):
            check_raises(self, due, call, None, None)
        check_raises(self, BadTable("table"), carried_row, ROWS[0], "1 0 0 1")


class Books(unittest.TestCase):
    def test_told_ones_in_their_order(self):
        for table in TABLES:
            for book in BOOKS:
                new = carried_book(book, table)
                self.assertEqual(new, Book([carried_told(told, table) for told in book]))
                self.assertEqual(carried_book(new, table.back()), book)
        self.assertEqual(carried_book(Book(), TABLES[6]), Book())

    def test_kept_there_if_here(self):
        for table in TABLES[::2]:
            for book in BOOKS:
                new = carried_book(book, table)
                for stem in stems_of(book):
                    self.assertIs(carried_stem(stem, table) in new, all(holds_at(told, stem) for told in book))

    def test_possible_there_if_here(self):
        for table in TABLES:
            for book in BOOKS:
                paper, new = fit(book), fit(carried_book(book, table))
                self.assertIs(bool(paper), bool(new))
                if paper:
                    self.assertTrue(carried_stem(paper.stem, table) in carried_book(book, table))
                    self.assertTrue(carried_stem(new.stem, table.back()) in book)
                elif paper.rest == 0 and paper.step is not None:
                    # Without rest the weights and times stay right, and the step is carried.
                    step = table.back().elder(paper.step)
                    if step.studs != 0:
                        step = step if step.studs > 0 else -step
                        self.assertTrue(denies(carried_book(book, table).told, type(paper)(paper.weights, step, paper.times, 0)))

    def test_words_stay(self):
        for table in TABLES[1::3]:
            for number, book in enumerate(BOOKS):
                if fit(book):
                    for saying in SAYINGS[number % 7::19]:
                        self.assertEqual(word_of(carried_book(book, table), carried_saying(saying, table)).word, word_of(book, saying).word)

    def test_wrong(self):
        check_wrong(self, carried_book, ("book", "book", BOOKS[3]), ("table", "table", TABLES[6]))
        check_wrong(self, carried_book, ("book", "book", Book()), ("table", "table", TABLES[6]))


class Sayings(unittest.TestCase):
    def test_each_class(self):
        for table in TABLES:
            for saying in SAYINGS:
                new = carried_saying(saying, table)
                self.assertIs(type(new), Rows)
                self.assertEqual(new, Rows([carried_told(told, table) for told in saying.told]))
                self.assertEqual(carried_saying(new, table.back()), Rows(saying.told))
                self.assertEqual(carried_saying(saying=saying, table=table), new)

    def test_by_hand(self):
        table = Table(A, -B)
        # (3, 1) is (1, 0) there, (1, 0) the new round turned about: shorter than the round.
        self.assertEqual(str(carried_saying(Shorter(A, B), table)), "rows above -1 0 1")
        # What leans, or is no longer than a length, tells of the elder round, (1, 3) there.
        self.assertEqual(carried_row(Row(0, 0, 1), table), Row.of_square(table.back().around))
        self.assertEqual(carried_saying(LeansRight(A), table).told[0].row, -Row.of_product(table.back().elder(A), table.back().around))
        self.assertEqual(carried_saying(NoLonger(A, Ratio(1, 2)), table).told[0].row, Row.of_square(table.back().around) * Ratio(1, 4) - Row(1, 0, 0))
        self.assertEqual(str(carried_saying(TurnIs(0), Table.put_on(2))), "rows zero 0 1 -2")

    def test_wrong(self):
        check_wrong(self, carried_saying, ("saying", "saying", LeansRight(C)), ("table", "table", TABLES[6]))
        full = Rows([Told.least(Row(1, 2, 3))] * 40)
        self.assertEqual(len(carried_saying(full, TABLES[6]).told), 40)


if __name__ == "__main__":
    unittest.main()
