"""Books for the tests of fits and rises: some by hand, many made up."""

import random

from spiralsays.books import Book
from spiralsays.ratios import Ratio
from spiralsays.rows import Row, Told
from spiralsays.steps import Step


def book(text):
    return Book.read(text)


# Each with what fit must find: whether the book is possible.
BY_HAND = [
    (book("-"), True),
    # Rows of 0 alone.
    (book("zero 0 0 0"), True), (book("least 0 0 0"), True), (book("above 0 0 0"), False),
    (book("zero 0 0 1"), False), (book("least 0 0 -1/7"), False), (book("above 0 0 1/9"), True),
    # The bowl's own border is no stem: E at most 0, at most D - 1/4.
    (book("least -1 0 0"), False), (book("least -1 1 -1/4"), False), (book("zero 1 -1 1/4"), False), (book("above -1 0 1/100"), True),
    # Turns alone: one turn, none by a trifle, none.
    (book("zero 0 3 -1"), True), (book("least 0 1 0 , least 0 -1 0"), True), (book("above 0 1 0 , least 0 -1 0"), False),
    (book("above 0 1 0 , above 0 -1 1/1000000"), True), (book("least 0 1 -2 , least 0 -1 1"), False),
    (book("above 0 1 0 , above 0 -1 0"), False), (book("zero 0 2 -1 , zero 0 3 -1"), False), (book("zero 0 2 -1 , zero 0 4 -2"), True),
    # One stem, and one that is left out by a trifle.
    (book("zero 1 0 -1/7 , zero 0 1 -5/14"), True), (book("zero 1 0 -1/7 , zero 0 1 -5/14 , above 7 0 -1"), False),
    (book("zero 1 0 -1/7 , zero 0 1 -5/14 , least 7 0 -1"), True), (book("zero 1 0 -1/8 , zero 0 1 -5/14"), False),
    # Three lines through one place, strict ones among them.
    (book("least 1 1 -2 , least -1 0 1 , least 0 -1 1 , above 1 0 -1"), False),
    (book("least 1 -1 0 , least -1 1 0 , above 0 1 0 , above 0 -1 1"), True),
    (book("least 1 -1 0 , least -1 1 0 , above 0 1 -1"), False),
    # A wedge that opens below, one that opens above.
    (book("least -1 1 0 , least -1 -1 0"), False), (book("least 1 1 0 , least 1 -1 0"), True),
    # The same thing told twice and with other measures.
    (book("above -1 0 1 , above -1 0 1 , least -2 0 2"), True), (book("above 1 0 -1 , above 1 0 -1 , least -2 0 2"), False),
    # One end told least and above, either first: it does not belong to what is left.
    (book("least 1 0 -1 , above 1 0 -1 , zero 0 1 0"), True), (book("above 1 0 -1 , least 1 0 -1 , zero 0 1 0"), True),
    (book("above 1 0 -2/3 , least -1 0 1 , above -1 0 1 , zero 0 1 0"), True), (book("above 1 0 -2/3 , above -1 0 1 , least -1 0 1 , zero 0 1 0"), True),
    (book("least 0 1 -1 , above 0 1 -1"), True), (book("above 0 1 -1 , least 0 1 -1"), True),
    # A row from below holds the place, close to where E - D D would be greatest on its line.
    (book("above 2 -5 -5 , least -1 2 3 , above 2 -2 2 , least 2 5 2"), True), (book("least 2 -5 -5 , above -1 2 3"), True),
    (book("least 4 -3 2 , least 0 -5 1 , least 1 5 1 , above -1 -4 1"), True), (book("above -1 4 4 , least 4 0 0 , above 1 -5 -2"), True),
    # Ends that are no fractions.
    (book("zero -1 0 2"), True), (book("zero -1 0 1/2 , above 0 1 -7071/10000"), True), (book("zero -1 0 1/2 , above 0 1 -442/625"), False),
    # Far turns and negative ones.
    (book("least 0 1 -1000000"), True), (book("above 0 -1 -1000000"), True), (book("zero 0 7 100"), True),
    (book(f"above 0 1 -{10 ** 50} , above 0 -1 {10 ** 50 + 1}"), True),
]


def made_up(seed, many, digits=1):
    """Books with small numbers, so that much is parallel, equal or through one place; about half are possible."""
    chance = random.Random(seed)
    most = 10 ** digits

    def number():
        return Ratio(chance.randint(-most, most) // chance.choice([1, 2, 5]), chance.choice([1, 1, 1, 2, 3, most - 1]))

    books = []
    for _ in range(many):
        turn = Ratio(chance.randint(-8, 8), chance.randint(1, 5))
        squared = turn * turn + Ratio(chance.randint(1, 9), chance.randint(1, 9))
        told = []
        for _ in range(chance.choice([1, 2, 2, 3, 3, 4, 5, 7, 10])):
            kind = chance.choice(["zero", "least", "least", "above", "above"])
            a, b, c = number(), number(), number()
            value = a * squared + b * turn + c
            if chance.random() < 0.7:
                if kind == "zero" or chance.random() < 0.2:
                    kind, c = chance.choice(["zero", "least", "least"]), c - value
                elif value.sign < 0:
                    a, b, c = -a, -b, -c
            told.append(Told(kind, Row(a, b, c)))
        books.append(Book(told))
    return books


def through_one_place(seed, many):
    """Books whose rows are all 0 at one place: what is above decides by trifles."""
    chance = random.Random(seed)
    books = []
    for _ in range(many):
        turn = Ratio(chance.randint(-3, 3), chance.randint(1, 3))
        squared = turn * turn + Ratio(chance.randint(0, 3), chance.randint(1, 3))
        told = []
        for _ in range(chance.randint(2, 6)):
            a, b = chance.randint(-3, 3), chance.randint(-3, 3)
            row = Row(a, b, -(squared * a + turn * b)) * Ratio(chance.randint(1, 5), chance.randint(1, 5))
            told.append(Told(chance.choice(["zero", "least", "above", "above", "above"]), row))
        books.append(Book(told))
    return books


MADE_UP = made_up(1, 1500) + made_up(2, 60, 4) + through_one_place(3, 600)

# By the document.
A, B, C = Step(3, 1), Step(1, 0), Step(2, 1)
BLUNT = Book([Told.above(-Row.of_product(A, B)), Told.above(-Row.of_product(A, C))])
EVEN = Book([Told.zero(Row.of_square(C) - Row.of_square(A))])
FLAT = Book([Told.above(Row(-1, 0, Ratio(1, 2)))])
