"""What the checks of choice take, and what they do not."""

import unittest

from spiralsays.books import Book
from spiralsays.check_choice import shows_cheapest, shows_clash, shows_enough, shows_offers, shows_strikes
from spiralsays.clashes import Clash, clash
from spiralsays.errors import BadNumber, BadRow, BadTold, Unlike
from spiralsays.fits import Kept, OneStep, fit
from spiralsays.measures import EnoughRows, StillBoth, enough
from spiralsays.offers import Cheapest, Follows, cheapest, offers
from spiralsays.papers import Denial, Paper
from spiralsays.ratios import Ratio
from spiralsays.rows import Row, Told
from spiralsays.sayings import LeansRight, TurnBelow
from spiralsays.stems import Stem
from spiralsays.steps import Step
from spiralsays.strikes import NotStruck, Struck, strikes
from spiralsays.words import Always, Both, Nowhere
from choice_by_hand import (
    AT_TURN, BOOKS, CHOICES, FREE, IMPOSSIBLE, LESS, NEVER, ODD, R1, R2, SMALL, TURN, TWICE, ZERO, all_outcomes, is_cheapest, is_clash, is_enough,
    is_offers, is_strikes,
)
from helpers import ANY, check_raises, check_wrong, is_integer, is_list_of, up_to
from papers_by_hand import bends, other_ways
from some_books import BLUNT, EVEN
from some_sayings import A

ROWS = (is_list_of(Row), BadRow)
POSSIBLE = [(book, saying, rows) for book, saying, rows in CHOICES if fit(book)]


def bents(paper, most=100):
    """The paper with a part bent, not too many of them; nested ones are bent by parts of their own."""
    kind, found = type(paper), []
    for at in range(len(paper.parts)):
        for bent in bent_values(paper.parts[at]):
            found.append(kind(*paper.parts[:at], bent, *paper.parts[at + 1:]))
    return found[::max(1, len(found) // most)]


def bent_values(value, deep=3):
    others = [None, True, 0, "zero", (), [value], Step(1, 0), Ratio(1, 2), Stem(0, 1)]
    others = [one for one in others if not (type(one) is type(value) and one == value)]
    if is_integer(value):
        others += [value + 1, -value - 1, Ratio(value)]
    if isinstance(value, Paper):
        others += bends(value)[::7] if isinstance(value, OneStep) else bents(value, 12)
    if isinstance(value, tuple):
        others += [value[:-1], (*value, None), list(value)] + ([(*value, value[-1]), value[::-1]] if value else [])
        if deep:
            for at in range(len(value)):
                others += [(*value[:at], bent, *value[at + 1:]) for bent in bent_values(value[at], deep - 1)]
    return others


def other_way(value):
    """A paper, or values in lists, with each OneStep in it written in another right way."""
    if isinstance(value, OneStep):
        return other_ways(value)[-1]
    if isinstance(value, (Always, Nowhere)):
        return type(value)(other_way(value.parts[0]))
    return [other_way(one) for one in value] if isinstance(value, tuple) else value


def no_papers(right):
    return [*ANY, right.parts, Paper(right.word, *right.parts), Denial(right.word, *right.parts)]


class ShowsClash(unittest.TestCase):
    def test_what_is_returned(self):
        for book in BOOKS:
            self.assertIs(shows_clash(book, clash(book)), True)

    def test_bent(self):
        for book in (ODD, TWICE, IMPOSSIBLE[0], EVEN, Book(ODD.told + (NEVER,))):
            paper = clash(book)
            for bent in bents(paper, 400):
                self.assertIs(shows_clash(book, bent), is_clash(book, bent), bent.parts)
            for other in BOOKS:
                self.assertIs(shows_clash(other, paper), is_clash(other, paper))

    def test_other_right_ones(self):
        for book in IMPOSSIBLE:
            paper = clash(book)
            for other in other_ways(paper.paper):
                self.assertIs(shows_clash(book, Clash(list(paper.numbers), other)), True)
            # Whether fewer clash is not asked.
            numbers = tuple(range(len(book)))
            self.assertIs(shows_clash(book, Clash(numbers, fit(book))), True)
        right = OneStep([8, 3, 14], None, 0, 0)
        for numbers, due in (
            ([0, 1, 2], True), ((0, 1, 2), True), ([0, 2, 1], False), ([0, 1], False), ([], False), ([0, 0, 1, 2], False), ([0, 1, 3], False), ([-3, -2, -1], False), ([False, 1, 2], False),
            ([0, Ratio(1), 2], False), (["0", 1, 2], False), ({0: 1, 1: 2, 2: 3}, False), ("012", False), (None, False), ([0, True, 2], False),
        ):
            self.assertIs(shows_clash(ODD, Clash(numbers, right)), due, numbers)
        # The weights in the order of the numbers, but these do not ascend.
        for numbers, weights in (([0, 2, 1], (8, 14, 3)), ([1, 0, 2], (3, 8, 14)), ([2, 1, 0], (14, 3, 8)), ([0, 1, 2, 2], (8, 3, 7, 7)), ([0, 1, 1, 2], (8, 1, 2, 14))):
            self.assertIs(shows_clash(ODD, Clash(numbers, OneStep(weights, None, 0, 0))), False)
        self.assertIs(shows_clash(Book(FREE), Clash([], OneStep([], None, 0, 1))), False)
        self.assertIs(shows_clash(EVEN, Kept(Stem(Ratio(1, 3), Ratio(2, 15)))), True)
        self.assertIs(shows_clash(ODD, Kept(Stem(Ratio(1, 3), Ratio(2, 15)))), False)

    def test_many_told_ones(self):
        book = Book([NEVER] * 40)
        self.assertIs(shows_clash(book, Clash([39], OneStep([1], None, 0, 0))), True)
        self.assertIs(shows_clash(book, Clash([40], OneStep([1], None, 0, 0))), False)

    def test_other_values(self):
        for value in [*no_papers(clash(ODD)), fit(ODD), strikes(ODD, 1)]:
            self.assertIs(shows_clash(ODD, value), False)
        check_wrong(self, lambda book: shows_clash(book, None), ("book", "book", ODD))
        self.assertIs(shows_clash(book=ODD, value=clash(ODD)), True)


class ShowsStrikes(unittest.TestCase):
    def test_what_is_returned(self):
        for book in BOOKS:
            for most in (0, 1, 2):
                self.assertIs(shows_strikes(book, most, strikes(book, most)), True)

    def test_bent(self):
        for book in (ODD, TWICE, IMPOSSIBLE[0], EVEN, Book([NEVER] * 3)):
            for most in (0, 1, 2):
                paper = strikes(book, most)
                for bent in bents(paper, 150):
                    self.assertIs(shows_strikes(book, most, bent), is_strikes(book, most, bent), bent.parts)
                for other in BOOKS[::3]:
                    for limit in (0, 1, 2):
                        self.assertIs(shows_strikes(other, limit, paper), is_strikes(other, limit, paper))

    def test_other_right_ones(self):
        stem = Stem(Ratio(2, 5), Ratio(1, 4))
        for numbers, most, due in (
            ([1], 1, True), ([1], 2, True), ([1], 0, False), ((0, 1), 2, True), ([1, 2], 2, True), ([0, 1, 2], 2, False), ([1, 0], 2, False), ([0], 1, False), ([], 2, False), ([1, 1], 2, False),
            ([True], 1, False), ([3], 1, False), ([-2], 1, False), (None, 1, False), (1, 1, False), ([1, 3], 2, False), ([Ratio(1)], 1, False),
        ):
            self.assertIs(shows_strikes(ODD, most, Struck(numbers, stem)), due, (numbers, most))
        for book in IMPOSSIBLE:
            paper = strikes(book, 2)
            if not paper:
                self.assertIs(shows_strikes(book, 2, NotStruck(other_way(paper.papers))), True)
                self.assertIs(shows_strikes(book, 1, paper), False)
                self.assertIs(shows_strikes(book, 2, NotStruck(paper.papers[:-1])), False)
                self.assertIs(shows_strikes(book, 2, NotStruck(paper.papers + paper.papers[:1])), False)

    def test_many_told_ones(self):
        book = Book([NEVER] * 40)
        papers = [OneStep([1] * (40 - size), None, 0, 0) for size in (0, *[1] * 40, *[2] * 780)]
        self.assertIs(shows_strikes(book, 2, NotStruck(papers)), True)
        self.assertIs(shows_strikes(book, 1, NotStruck(papers[:41])), True)
        self.assertIs(shows_strikes(book, 1, NotStruck(papers)), False)

    def test_other_values(self):
        for value in [*no_papers(strikes(ODD, 1)), fit(ODD), clash(ODD)]:
            self.assertIs(shows_strikes(ODD, 1, value), False)
        check_wrong(self, lambda book, most: shows_strikes(book, most, None), ("book", "book", ODD), ("most", up_to(0, 2), 1))
        self.assertIs(shows_strikes(book=ODD, most=1, value=strikes(ODD, 1)), True)


class ShowsEnough(unittest.TestCase):
    def test_what_is_returned(self):
        for book, saying, rows in POSSIBLE:
            self.assertIs(shows_enough(book, saying, rows, enough(book, saying, rows)), True)

    def test_bent(self):
        for book, saying, rows in POSSIBLE[::16] + POSSIBLE[-3:]:
            paper = enough(book, saying, rows)
            for bent in bents(paper, 60):
                self.assertIs(shows_enough(book, saying, rows, bent), is_enough(book, saying, rows, bent))
            for other in POSSIBLE[::9]:
                self.assertIs(shows_enough(*other, paper), is_enough(*other, paper))
            if rows:
                for less in (rows[1:], [*rows, ZERO], rows[::-1]):
                    self.assertIs(shows_enough(book, saying, less, paper), is_enough(book, saying, less, paper))

    def test_other_right_ones(self):
        for book, saying, rows in POSSIBLE:
            paper = enough(book, saying, rows)
            if paper:
                self.assertIs(shows_enough(book, saying, rows, EnoughRows(other_way(paper.table))), True)
                self.assertIs(shows_enough(book, saying, rows, EnoughRows(paper.table[::-1])), len(paper.table) == 1)
            else:
                self.assertIs(shows_enough(book, saying, rows, StillBoth(paper.signs, paper.broken, paper.kept)), False)
        # A StillBoth of whichever outcome; at an outcome that cannot come any right one of the three papers.
        one, other = Stem(Ratio(3, 8), Ratio(37, 256)), Stem(Ratio(3, 8), Ratio(3, 16))
        for signs, kept, broken, due in (
            (["below"], one, other, True), (("below",), one, other, True), (["zero"], one, other, False), (["below"], other, one, False), (["Below"], one, other, False), ([], one, other, False),
            ("below", one, other, False), (["below"], one, one, False), (["below"], one, Stem(Ratio(3, 8), 1), False), (["below"], one, Stem(Ratio(2, 5), Ratio(3, 16)), False), (["below", "zero"], one, other, False),
        ):
            self.assertIs(shows_enough(AT_TURN, SMALL, [R1], StillBoth(signs, kept, broken)), due, signs)

    def test_what_cannot_come(self):
        never = [OneStep([0, 1], None, 0, 0), OneStep([0, 1], None, 0, 0)]
        words = {sign: dict(enough(AT_TURN, LeansRight(A), [ZERO]).table)[sign,] for sign in ("zero",)}
        always = Always([[OneStep([0, 1, 0], None, 0, 0)]])
        nowhere = Nowhere(OneStep([0, 1, 0], None, 0, 0))
        for first, last, due in (
            (never[0], never[1], True), (always, never[1], True), (always, nowhere, True), (nowhere, always, True), (Both(Stem(0, 1), Stem(0, 2)), never[1], False), (None, never[1], False),
            (Always([[OneStep([0, 0, 0], None, 0, 0)]]), never[0], False), (Kept(Stem(Ratio(3, 8), 1)), never[0], False),
        ):
            table = [(["below"], first), (["zero"], words["zero"]), (["above"], last)]
            self.assertIs(shows_enough(AT_TURN, LeansRight(A), [ZERO], EnoughRows(table)), due)

    def test_of_impossible_books(self):
        own = lambda more: OneStep([1, 1] + [0] * more, A, 1, 0)
        table = [(signs, own(2)) for signs in all_outcomes(2)]
        self.assertIs(shows_enough(BLUNT, TurnBelow(0), [R1, R2], EnoughRows(table)), True)
        self.assertIs(shows_enough(BLUNT, TurnBelow(0), [R1, R2], EnoughRows([(signs, Nowhere(own(3))) for signs in all_outcomes(2)])), True)
        self.assertIs(shows_enough(BLUNT, TurnBelow(0), [R1, R2], EnoughRows([(signs, Always([[own(3)]])) for signs in all_outcomes(2)])), True)
        self.assertIs(shows_enough(BLUNT, TurnBelow(0), [R1, R2], StillBoth(["below", "below"], Stem(0, 1), Stem(0, 2))), False)
        self.assertIs(shows_enough(BLUNT, TurnBelow(0), [], EnoughRows([([], own(0))])), True)
        # More rows than enough takes; more told ones, too.
        self.assertIs(shows_enough(Book(BLUNT.told + tuple(FREE)), TurnBelow(0), [R1], EnoughRows([(signs, own(13)) for signs in all_outcomes(1)])), True)
        table = [(signs, own(5)) for signs in all_outcomes(5)]
        self.assertIs(shows_enough(BLUNT, TurnBelow(0), [R1] * 5, EnoughRows(table)), True)
        self.assertIs(shows_enough(BLUNT, TurnBelow(0), [R1] * 5, EnoughRows(table[:-1])), False)
        self.assertIs(shows_enough(BLUNT, TurnBelow(0), [R1] * 200, EnoughRows(table)), False)

    def test_other_values(self):
        for rows in ([R1], [R2]):
            for value in no_papers(enough(AT_TURN, SMALL, rows)) + [EnoughRows(value) for value in ANY] + [StillBoth(value, Stem(0, 1), value) for value in ANY] + [EnoughRows([value] * 3) for value in ANY]:
                self.assertIs(shows_enough(AT_TURN, SMALL, rows, value), False)
        call = lambda book, saying, rows: shows_enough(book, saying, rows, None)
        check_wrong(self, call, ("book", "book", AT_TURN), ("saying", "saying", SMALL), ("rows", ROWS, [R1]))
        self.assertIs(shows_enough(book=AT_TURN, saying=SMALL, rows=[R2], value=enough(AT_TURN, SMALL, [R2])), True)


class ShowsCheapest(unittest.TestCase):
    def test_what_is_returned(self):
        for number, (book, saying, rows) in enumerate(POSSIBLE):
            prices = [(number * 7 + at * 3) % 5 for at in range(len(rows))]
            self.assertIs(shows_cheapest(book, saying, rows, prices, cheapest(book, saying, rows, prices)), True)

    def test_bent(self):
        for book, saying, rows in POSSIBLE[::7] + [(AT_TURN, SMALL, [R1, R2]), (AT_TURN, SMALL, [R2, R1, R2])]:
            prices = [2, 3, 5, 7][:len(rows)]
            paper = cheapest(book, saying, rows, prices)
            for bent in bents(paper, 80):
                self.assertIs(shows_cheapest(book, saying, rows, prices, bent), is_cheapest(book, saying, rows, prices, bent))
            for other in (prices[::-1], [one + 1 for one in prices]):
                self.assertIs(shows_cheapest(book, saying, rows, other, paper), is_cheapest(book, saying, rows, other, paper))

    def test_other_right_ones(self):
        right = enough(AT_TURN, SMALL, [R2])
        both = enough(AT_TURN, SMALL, [R1, R2])
        for numbers, price, paper, due in (
            ([1], 5, right, True), ([2], 9, right, True), ([1, 2], 14, enough(AT_TURN, SMALL, [R2, R2]), True), ([0, 1], 12, both, True), ([0, 1], 5, both, False), ([0], 7, right, False),
            ([1], Ratio(5), right, False), ([1], 9, right, False), ([1], "5", right, False), ([1], None, right, False), ([1, 0], 12, both, False), ([3], 5, right, False), ((1,), 5, right, True),
            ([1], 5, both, False), ([True], 5, right, False), ([1], 5, StillBoth(["below"], Stem(0, 1), Stem(0, 1)), False), ([], 0, enough(AT_TURN, LeansRight(A), []), False),
        ):
            self.assertIs(shows_cheapest(AT_TURN, SMALL, [R1, R2, R2], [7, 5, 9], Cheapest(numbers, price, paper)), due, (numbers, price))
        self.assertIs(shows_cheapest(AT_TURN, SMALL, [R2], [1], Cheapest([0], True, right)), False)
        # A StillBoth is one of all rows.
        still = enough(AT_TURN, SMALL, [R1])
        self.assertIs(shows_cheapest(AT_TURN, SMALL, [R1], [1], still), True)
        self.assertIs(shows_cheapest(AT_TURN, SMALL, [R1, R2], [1, 1], still), False)

    def test_other_values(self):
        right = cheapest(AT_TURN, SMALL, [R1, R2], [0, 5])
        for value in [*no_papers(right), right.paper]:
            self.assertIs(shows_cheapest(AT_TURN, SMALL, [R1, R2], [0, 5], value), False)
        prices = lambda value: isinstance(value, (list, tuple)) and all(is_integer(one) and one >= 0 for one in value)
        call = lambda book, saying, rows, prices: shows_cheapest(book, saying, rows, prices, None)
        check_wrong(self, call, ("book", "book", AT_TURN), ("saying", "saying", SMALL), ("rows", ROWS, [R1]), ("prices", (prices, BadNumber), [1]))
        check_raises(self, Unlike("prices"), shows_cheapest, BLUNT, SMALL, [R1], [1, 2], None)
        check_raises(self, BadNumber("prices"), shows_cheapest, BLUNT, SMALL, [R1], [-1], None)
        self.assertIs(shows_cheapest(BLUNT, SMALL, [R1] * 9, [1] * 9, None), False)
        self.assertIs(shows_cheapest(book=AT_TURN, saying=SMALL, rows=[R1, R2], prices=[0, 5], value=right), True)


class ShowsOffers(unittest.TestCase):
    TOLD = [Told.least(Row(1, 0, 0)), Told.above(Row(-1, 0, Ratio(1, 8))), Told.above(LESS), Told.zero(ZERO), Told.least(TURN)]

    def test_what_is_returned(self):
        for book in BOOKS:
            if fit(book):
                for told in (self.TOLD, list(book.told), []):
                    self.assertIs(shows_offers(book, told, offers(book, told)), True)

    def test_bent(self):
        for book in (AT_TURN, EVEN, Book()):
            paper = offers(book, self.TOLD)
            for bent in bents(paper, 400):
                self.assertIs(shows_offers(book, self.TOLD, bent), is_offers(book, self.TOLD, bent), bent.parts)
            for other in (self.TOLD[::-1], self.TOLD[:-1], self.TOLD + self.TOLD[:1], self.TOLD[:2] * 2):
                self.assertIs(shows_offers(book, other, paper), is_offers(book, other, paper))
            for other in BOOKS[:12]:
                self.assertIs(shows_offers(other, self.TOLD, paper), is_offers(other, self.TOLD, paper))

    def test_other_right_ones(self):
        paper = offers(AT_TURN, self.TOLD)
        always, nowhere, both = paper.parts
        self.assertIs(shows_offers(AT_TURN, self.TOLD, Follows(other_way(always), other_way(nowhere), both)), True)
        for parts in ((always[::-1], nowhere, both), (always + always[:1], nowhere, both), (always, both, nowhere), (always[1:], nowhere, both), (always, nowhere, both + always[:1]), (nowhere, always, both)):
            self.assertIs(shows_offers(AT_TURN, self.TOLD, Follows(*parts)), False)
        # A pair in another list than that of its word.
        for at, beside in ((0, 1), (0, 2), (1, 0), (1, 2), (2, 0), (2, 1)):
            parts = [list(part) for part in paper.parts]
            parts[beside] = sorted(parts[beside] + [parts[at].pop()], key=lambda pair: pair[0])
            self.assertIs(shows_offers(AT_TURN, self.TOLD, Follows(*parts)), False)
        self.assertIs(shows_offers(AT_TURN, [], Follows([], [], [])), True)
        # Of an impossible book both words are so; no Both.
        own = OneStep([1, 1, 0], A, 1, 0)
        told = [Told.least(TURN)]
        for parts, due in ((([(0, Always([[own]]))], [], []), True), (([], [(0, Nowhere(own))], []), True), (([(0, Always([[own]]))], [(0, Nowhere(own))], []), False), (([], [], [(0, Both(Stem(0, 1), Stem(0, 2)))]), False)):
            self.assertIs(shows_offers(BLUNT, told, Follows(*parts)), due)
        self.assertIs(shows_offers(BLUNT, told * 41, Follows([(number, Always([[own]])) for number in range(41)], [], [])), True)

    def test_other_values(self):
        for value in no_papers(offers(AT_TURN, self.TOLD)) + [Follows(value, value, value) for value in ANY if value not in ([], ())] + [Follows([], [value], []) for value in ANY]:
            self.assertIs(shows_offers(AT_TURN, self.TOLD, value), False)
        check_wrong(self, lambda book, told: shows_offers(book, told, None), ("book", "book", AT_TURN), ("told", (is_list_of(Told), BadTold), [NEVER]))
        self.assertIs(shows_offers(book=AT_TURN, told=[], value=Follows([], [], [])), True)


if __name__ == "__main__":
    unittest.main()
