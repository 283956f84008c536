"""Tables, stems and told ones for what is made new; squares and products reckoned without the program."""

from spiralsays.books import Book
from spiralsays.ratios import Ratio
from spiralsays.rows import Row, Told
from spiralsays.stems import Stem
from spiralsays.steps import Step
from spiralsays.tables import Table
from helpers import fraction
from some_books import BLUNT, EVEN, FLAT, made_up

A, B, C, ROUND = Step(3, 1), Step(1, 0), Step(2, 1), Step.one_round()

TABLES = [
    Table.same(), Table.mirror(), Table.put_on(1), Table.put_on(0), Table.put_on(-3), Table.put_on(10 ** 9), Table(A, -B), Table(B, A), Table(ROUND, B), Table(-ROUND, B), Table(A, C),
    Table(C, A), Table(-C, A), Table(Step(5, 2), Step(13, 5)), Table(Step(-8, -3), Step(5, 2)), Table(Step(34, 13), Step(-21, -8)), Table(Step(1, 7), ROUND), Table(-B, -ROUND), Table(B, -ROUND),
]
STEMS = [
    Stem(Ratio(5, 14), Ratio(1, 7)), Stem(Ratio(3, 8), Ratio(37, 256)), Stem(0, 1), Stem(0, Ratio(1, 16)), Stem(Ratio(1, 2), Ratio(1, 2)), Stem(Ratio(1, 2), Ratio(17, 4)), Stem(-3, 10),
    Stem(Ratio(-22, 7), 100), Stem(Ratio(2, 5), Ratio(1, 6)), Stem(Ratio(15, 38), Ratio(3, 19)), Stem(Ratio(1, 2), Ratio(3, 4) + Ratio(1, 4)), Stem(Ratio(1, 2), Ratio(5, 16)),
    Stem(Ratio(12345678, 87654321), Ratio(33333333, 99999998)), Stem(Ratio(1, 3), Ratio(1, 9) + Ratio(1, 10 ** 8)), Stem(10 ** 8, 10 ** 16 + 1),
]
STEPS = [Step(k, j) for k in range(-3, 5) for j in range(-2, 4) if (k, j) != (0, 0)] + [Step(13, 5), Step(-34, -13), Step(6, 2)]
# Rows without an E, rows 0 0 0, each kind; squares, products, leans.
ROWS = [
    Row(0, 0, 0), Row(0, 0, 1), Row(0, 0, Ratio(-1, 3)), Row(0, 1, 0), Row(0, Ratio(-7, 2), 5), Row(1, 0, 0), Row(-1, 2, Ratio(-3, 7)), Row(Ratio(12345678, 7), -87654321, Ratio(1, 99999999)),
    Row.of_square(A), -Row.of_square(C), Row.of_square(ROUND), Row.of_product(A, C), Row.of_lean(A), -Row.of_lean(C), Row.of_steeper(A, B), Row(1, 0, Ratio(-1, 7)), Row(5, -2, 0),
]
TOLD = [Told(kind, row) for kind in ("zero", "least", "above") for row in ROWS]
BOOKS = [Book(), Book([Told.zero(Row(0, 0, 0))]), BLUNT, EVEN, FLAT, Book(TOLD[:40]), Book.read("zero 1 0 -1/7 , zero 0 1 -5/14")] + made_up(5, 25)


def product_at(stem, one, other):
    turn, squared = fraction(stem.turn), fraction(stem.squared)
    k, j, m, i = one.studs, one.rounds, other.studs, other.rounds
    return k * m * squared - (k * i + m * j) * turn + j * i


def square_at(stem, step):
    return product_at(stem, step, step)


def worth_at(row, stem):
    return fraction(row.a) * fraction(stem.squared) + fraction(row.b) * fraction(stem.turn) + fraction(row.c)


def holds_at(told, stem):
    value = worth_at(told.row, stem)
    return value == 0 if told.kind == "zero" else value > 0 if told.kind == "above" else value >= 0


def elder_of(table, step):
    """The elder step of a new one, reckoned without the program."""
    return Step(step.studs * table.stud.studs + step.rounds * table.around.studs, step.studs * table.stud.rounds + step.rounds * table.around.rounds)


def stems_of(book):
    """Stems that keep the book and stems that do not, near to the ends of it."""
    from spiralsays.fits import fit
    found = list(STEMS)
    paper = fit(book)
    if paper:
        found += [paper.stem, Stem(paper.stem.turn, paper.stem.squared + Ratio(1, 7))]
    return found
