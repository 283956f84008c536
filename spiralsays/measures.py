"""Measures: rows whose signs are looked at, and whether they are enough for a saying."""

from spiralsays.books import need_book
from spiralsays.checks import is_list
from spiralsays.errors import BadRow, BadTold, TooMany
from spiralsays.fits import fit_of, need_possible
from spiralsays.papers import Denial, Paper
from spiralsays.rows import Row, Told
from spiralsays.sayings import need_saying
from spiralsays.words import Both, word_among

SIGNS = ("below", "zero", "above")
MOST_ROWS = 4
MOST_TOLD = 6


class EnoughRows(Paper):
    """For each outcome the pair of it and a paper: that it cannot come, or the word there."""

    def __init__(self, table):
        super().__init__("enoughrows", table)
        self.table = self.parts[0]


class StillBoth(Denial):
    """An outcome, and two stems that have it: the first keeps the saying, the second does not."""

    def __init__(self, signs, kept, broken):
        super().__init__("stillboth", signs, kept, broken)
        self.signs, self.kept, self.broken = self.parts


def told_by(rows, signs):
    need_rows(rows)
    if not are_signs(signs, len(rows)):
        raise BadTold("signs")
    return tuple([told_of_sign(row, sign) for row, sign in zip(rows, signs)])


def told_of_sign(row, sign):
    if sign == "zero":
        return Told.zero(row)
    return Told.above(row) if sign == "above" else Told.above(-row)


def are_signs(value, many):
    """Whether any value is a list of so many signs."""
    if not is_list(value) or len(value) != many:
        return False
    return all([isinstance(one, str) and one in SIGNS for one in value])


def all_outcomes(many):
    """All outcomes of so many rows, in order."""
    found = [()]
    for _ in range(many):
        found = [one + (sign,) for one in found for sign in SIGNS]
    return found


def outcomes(book, rows):
    need_book(book, "book")
    need_rows(rows)
    need_measurable(book, rows)
    papers = [(signs, fit_of(book.told + told_by(rows, signs))) for signs in all_outcomes(len(rows))]
    return tuple([(signs, paper.stem) for signs, paper in papers if paper])


def enough(book, saying, rows):
    need_book(book, "book")
    need_saying(saying, "saying")
    need_rows(rows)
    need_measurable(book, rows)
    return enough_of(book.told, saying.told, rows)


def next_row(book, saying, rows):
    need_book(book, "book")
    need_saying(saying, "saying")
    need_rows(rows)
    if len(rows) == 0:
        raise BadRow("rows")
    need_measurable(book, rows)
    left = [len(both_after(book.told, saying.told, row)) for row in rows]
    return (left.index(min(left)), min(left))


def need_rows(rows):
    if not is_list(rows) or not all([isinstance(one, Row) for one in rows]):
        raise BadRow("rows")


def need_measurable(book, rows):
    need_possible(book)
    if len(rows) > MOST_ROWS:
        raise TooMany("rows", MOST_ROWS)
    if len(book) > MOST_TOLD:
        raise TooMany("told", MOST_TOLD)


def enough_of(told, asked, rows):
    """The EnoughRows, or the StillBoth of the first outcome in which the word of what is asked is both."""
    table = []
    for signs in all_outcomes(len(rows)):
        paper = paper_of_outcome(told + told_by(rows, signs), asked)
        if isinstance(paper, Both):
            return StillBoth(signs, paper.kept, paper.broken)
        table.append((signs, paper))
    return EnoughRows(table)


def both_after(told, asked, row):
    """The signs of a row after which the word of what is asked is both."""
    return [sign for sign in SIGNS if isinstance(paper_of_outcome(told + (told_of_sign(row, sign),), asked), Both)]


def paper_of_outcome(told, asked):
    """The OneStep of an outcome that cannot come, otherwise the word of what is asked."""
    found = fit_of(told)
    return word_among(told, asked) if found else found
