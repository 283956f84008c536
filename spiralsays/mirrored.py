"""Steps, stems, rows, told ones, books and sayings, mirrored, or with rounds put on."""

from spiralsays.books import Book
from spiralsays.carried import carried_book, carried_row, carried_saying, carried_stem, carried_told
from spiralsays.errors import BadSaying
from spiralsays.rows import Row, Told
from spiralsays.sayings import Saying
from spiralsays.stems import Stem
from spiralsays.steps import Step
from spiralsays.tables import Table


def mirrored(value):
    need_carriable(value)
    return carried(value, Table.mirror())


def put_on(value, times):
    need_carriable(value)
    return carried(value, Table.put_on(times))


def need_carriable(value):
    if not isinstance(value, (Step, Stem, Row, Told, Book, Saying)):
        raise BadSaying("value")


def carried(value, table):
    """What a table makes of a value of one of these classes."""
    if isinstance(value, Step):
        return table.back().elder(value)
    if isinstance(value, Stem):
        return carried_stem(value, table)
    if isinstance(value, Row):
        return carried_row(value, table)
    if isinstance(value, Told):
        return carried_told(value, table)
    return carried_book(value, table) if isinstance(value, Book) else carried_saying(value, table)
