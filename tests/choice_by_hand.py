"""Papers of choice, reckoned without the program; books that clash, rows, sayings."""

import itertools
import random

from spiralsays.books import Book
from spiralsays.clashes import Clash
from spiralsays.fits import Kept
from spiralsays.measures import EnoughRows, StillBoth
from spiralsays.offers import Cheapest, Follows
from spiralsays.ratios import Ratio
from spiralsays.rows import Row, Told
from spiralsays.sayings import IsNet, LeansRight, Nearest, Rows, Shorter, TurnAbove, TurnBelow, TurnIs
from spiralsays.stems import Stem
from spiralsays.steps import Step
from spiralsays.strikes import NotStruck, Struck
from spiralsays.words import Always, Both, Nowhere
from helpers import is_integer, keeps
from papers_by_hand import denies, is_word
from some_books import BLUNT, EVEN, FLAT, made_up, through_one_place
from some_sayings import A, B, C, NETS, SAYINGS

SIGNS = ("below", "zero", "above")


def all_sets(many, most):
    return [one for size in range(most + 1) for one in itertools.combinations(range(many), size)]


def only(book, numbers):
    return [book.told[number] for number in numbers]


def but(book, numbers):
    return [told for number, told in enumerate(book.told) if number not in numbers]


def are_numbers(value, many):
    if not isinstance(value, tuple) or not all(is_integer(one) and 0 <= one < many for one in value):
        return False
    return all(one < other for one, other in zip(value, value[1:]))


def is_clash(book, value):
    if isinstance(value, Kept):
        return isinstance(value.stem, Stem) and keeps(value.stem, book)
    if not isinstance(value, Clash) or not are_numbers(value.numbers, len(book)) or len(value.numbers) == 0:
        return False
    return denies(only(book, value.numbers), value.paper)


def is_strikes(book, most, value):
    if isinstance(value, Struck):
        right = are_numbers(value.numbers, len(book)) and len(value.numbers) <= most
        return right and isinstance(value.stem, Stem) and keeps(value.stem, but(book, value.numbers))
    sets = all_sets(len(book), most)
    if not isinstance(value, NotStruck) or not isinstance(value.papers, tuple) or len(value.papers) != len(sets):
        return False
    return all(denies(but(book, one), paper) for one, paper in zip(sets, value.papers))


def tells(rows, signs):
    """What an outcome tells."""
    kinds = {"below": lambda row: Told("above", -row), "zero": lambda row: Told("zero", row), "above": lambda row: Told("above", row)}
    return [kinds[sign](row) for row, sign in zip(rows, signs)]


def is_outcome(value, many):
    return isinstance(value, tuple) and len(value) == many and all(isinstance(one, str) and one in SIGNS for one in value)


def all_outcomes(many):
    return list(itertools.product(SIGNS, repeat=many))


def is_enough(book, saying, rows, value):
    if isinstance(value, StillBoth):
        if not is_outcome(value.signs, len(rows)) or not isinstance(value.kept, Stem) or not isinstance(value.broken, Stem):
            return False
        told = [*book, *tells(rows, value.signs)]
        return keeps(value.kept, [*told, *saying.told]) and keeps(value.broken, told) and not keeps(value.broken, saying.told)
    if not isinstance(value, EnoughRows) or not isinstance(value.table, tuple) or len(value.table) != 3 ** len(rows):
        return False
    for signs, entry in zip(all_outcomes(len(rows)), value.table):
        if not isinstance(entry, tuple) or len(entry) != 2 or not is_outcome(entry[0], len(rows)) or entry[0] != signs:
            return False
        told, paper = [*book, *tells(rows, signs)], entry[1]
        if not (is_word(told, saying.told, paper) if isinstance(paper, (Always, Nowhere)) else denies(told, paper)):
            return False
    return True


def is_cheapest(book, saying, rows, prices, value):
    if isinstance(value, StillBoth):
        return is_enough(book, saying, rows, value)
    if not isinstance(value, Cheapest) or not are_numbers(value.numbers, len(rows)) or not is_integer(value.price):
        return False
    if value.price != sum(prices[number] for number in value.numbers) or not isinstance(value.paper, EnoughRows):
        return False
    return is_enough(book, saying, [rows[number] for number in value.numbers], value.paper)


def is_offers(book, told, value):
    if not isinstance(value, Follows):
        return False
    numbers = []
    for pairs, kind in zip(value.parts, (Always, Nowhere, Both)):
        if not isinstance(pairs, tuple) or not all(isinstance(one, tuple) and len(one) == 2 for one in pairs):
            return False
        if not are_numbers(tuple(number for number, _ in pairs), len(told)):
            return False
        if not all(isinstance(paper, kind) and is_word(book.told, [told[number]], paper) for number, paper in pairs):
            return False
        numbers += [number for number, _ in pairs]
    return sorted(numbers) == list(range(len(told)))


NEVER = Told.above(Row(0, 0, 0))
S1, S2, S3 = Step(1, 0), Step(2, 1), Step(3, 1)
ODD = Book(Shorter(S1, S2).told + Shorter(S3, S1).told + TurnAbove(Ratio(5, 14)).told)
TWICE = Book((TurnAbove(1).told + TurnBelow(0).told) * 2)
FREE = [Told.least(Row(0, 0, one)) for one in range(1, 13)]


def placed_among(told, many):
    """A book of so many told ones, these among others that say nothing."""
    told = list(told)
    return Book(FREE[:(many - len(told)) // 2] + told + FREE[(many - len(told)) // 2:][:many - len(told) - (many - len(told)) // 2])


IMPOSSIBLE = [
    # By one told one; by two, by three; two such sets at once; equal told ones.
    Book([NEVER]), Book([Told.zero(Row(0, 0, 1))]), Book([Told.least(Row(-1, 0, 0))]), Book.read("least 0 1 0 , least -1 1 -1/4 , above 0 0 0"), BLUNT, TWICE, ODD,
    Book(BLUNT.told + TWICE.told), Book(ODD.told + (NEVER,)), Book(ODD.told + TWICE.told), Book(ODD.told * 2), Book(BLUNT.told * 3), Book(TurnIs(0).told + TurnIs(1).told + TurnIs(2).told),
    Book((NEVER, NEVER)), placed_among(ODD.told, 12), placed_among(BLUNT.told, 12), placed_among(TWICE.told, 11), placed_among([NEVER], 12), Book([NEVER] * 12),
    Book.read("least -1 0 1/7 , least 0 1 -2/5"), Book.read("least -1 0 1/9 , zero 0 1 -1/3 , least 1 0 -1/9"), Book(TurnIs(0).told * 3 + TurnIs(1).told * 3 + TurnIs(2).told * 3),
]


def some_books(seed, many):
    chance = random.Random(seed)
    found = []
    for book in made_up(seed, many) + through_one_place(seed + 1, many // 2):
        told = list(book.told)
        if chance.random() < 0.4:
            told += chance.choice(IMPOSSIBLE).told[:3]
        chance.shuffle(told)
        found.append(Book(told[:12]))
    return found


BOOKS = [Book(), EVEN, FLAT, Book(TurnIs(Ratio(3, 8)).told)] + IMPOSSIBLE + some_books(41, 60)
AT_TURN = Book(TurnIs(Ratio(3, 8)).told)
SMALL = Shorter(S3, S2)
R1, R2 = Row(1, 0, Ratio(-1, 4)), Row(1, 0, Ratio(-3, 20))
ZERO = Row(0, 0, 0)
TURN = Row(0, 1, Ratio(-1, 2))
LESS = Row.of_square(S2) - Row.of_square(S3)


def some_choices():
    """Triples of a possible book of at most six told ones, a saying, rows, at most four."""
    chance = random.Random(3)
    pool = [R1, R2, ZERO, TURN, LESS, -LESS, Row.of_product(S1, S2), Row.of_product(S2, S3), Row.of_lean(S3), Row.of_lean(S2), Row(0, 0, 1), Row(0, 1, 0), Row(1, 0, Ratio(-1, 7)), Row.of_square(S1) - Row.of_square(S2)]
    books = [Book(), AT_TURN, EVEN, FLAT, Book(TurnAbove(0).told + TurnBelow(1).told), Book.read("least 0 1 -1/3 , least 0 -1 1/2 , least -1 0 1/5"), Book(IsNet(NETS[2]).told), Book(FREE[:6])]
    books += [book for book in some_books(43, 40) if len(book) <= 6]
    sayings = [SMALL, LeansRight(S3), Nearest(B, C), IsNet(NETS[2]), TurnAbove(Ratio(1, 2)), TurnIs(Ratio(3, 8)), Rows([Told.zero(LESS), Told.above(TURN)])] + SAYINGS[::13]
    found = []
    for book in books:
        for _ in range(5):
            found.append((book, chance.choice(sayings), [chance.choice(pool) for _ in range(chance.choice([0, 1, 1, 2, 2, 2, 3]))]))
    # The rows of the saying's own told ones are enough.
    for saying in sayings[:8]:
        if len(saying.told) <= 4:
            found.append((books[len(found) % 8], saying, [told.row for told in saying.told]))
    found += [(Book(), SMALL, [LESS, R1, TURN, ZERO]), (AT_TURN, SMALL, [R1, R2, R1, ZERO]), (Book(FREE[:6]), LeansRight(A), [Row.of_lean(A)] * 4), (AT_TURN, SMALL, [R1]), (AT_TURN, SMALL, [R2]), (AT_TURN, SMALL, [])]
    return found


CHOICES = some_choices()
