"""Stems, rows, told ones, books and sayings, carried to the sheet that a table tells anew."""

from spiralsays.books import Book, need_book
from spiralsays.rows import Row, Told, need_row, need_told
from spiralsays.sayings import Rows, need_saying
from spiralsays.stems import Stem, need_stem
from spiralsays.tables import need_table


def carried_stem(stem, table):
    need_stem(stem, "stem")
    need_table(table, "table")
    around = stem.square(table.around)
    turn = -stem.product(table.stud, table.around).over(around)
    return Stem(turn, stem.square(table.stud).over(around))


def carried_row(row, table):
    need_row(row, "row")
    need_table(table, "table")
    # E is the square of (1, 0), - D its product with the round, 1 the square of the round:
    # the table that leads back tells which steps these are there.
    back = table.back()
    mixed = Row.of_product(back.stud, back.around) * row.b
    return Row.of_square(back.stud) * row.a - mixed + Row.of_square(back.around) * row.c


def carried_told(told, table):
    need_told(told, "told")
    need_table(table, "table")
    return Told(told.kind, carried_row(told.row, table))


def carried_book(book, table):
    need_book(book, "book")
    need_table(table, "table")
    return Book([carried_told(told, table) for told in book.told])


def carried_saying(saying, table):
    need_saying(saying, "saying")
    need_table(table, "table")
    return Rows([carried_told(told, table) for told in saying.told])
