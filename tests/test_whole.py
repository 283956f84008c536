"""All that is told of a book; and what is so over the whole program: the same answers whichever way a thing is told."""

import time
import unittest

from spiralsays.books import Book
from spiralsays.carried import carried_book
from spiralsays.check_choice import shows_clash
from spiralsays.check_fits import shows_fit, shows_rise, shows_simplest
from spiralsays.check_nets import shows_sure_net
from spiralsays.check_roads import shows_road
from spiralsays.clashes import Clash, clash
from spiralsays.counted import RightLeft
from spiralsays.desk import Desk
from spiralsays.errors import TooMany
from spiralsays.fits import Kept, OneStep, Simplest, fit, simplest_turn
from spiralsays.heights import Heights
from spiralsays.net_words import SureNet, Unsure, sure_net
from spiralsays.papers import Paper
from spiralsays.ratios import Ratio
from spiralsays.rises import Endless, Highest, greatest_rise
from spiralsays.rows import Row, Told
from spiralsays.sayings import Rows, TurnAtLeast, TurnAtMost, TurnIs
from spiralsays.stems import Stem
from spiralsays.tables import Table
from spiralsays.tied_fits import fit_heights, word_heights
from spiralsays.told_counts import CountBook, fit_counts, word_counts
from spiralsays.turns import Ended, Roadless, SureRoad, sure_road
from spiralsays.whole import shows_whole, told_whole
from spiralsays.windows import Window
from spiralsays.words import word_of
from choice_by_hand import BOOKS, FREE, IMPOSSIBLE, NEVER, ODD
from helpers import ANY, check_raises, check_wrong, keeps
from papers_by_hand import denies
from some_books import BLUNT, BY_HAND, EVEN, FLAT, MADE_UP
from some_sayings import A, SAYINGS

FEW = [EVEN, FLAT, Book(), BLUNT, ODD, Book(TurnIs(Ratio(2, 5)).told), Book.read("zero 2 -1 0"), Book([NEVER])]
MANY = FEW + BOOKS + [book for book, _ in BY_HAND] + MADE_UP[::60]
MANY = [book for book in MANY if len(book) <= 12]


def is_whole(book, value):
    """By the checks of each paper, which have tests of their own."""
    if not isinstance(value, (list, tuple)):
        return False
    if len(value) == 2:
        return isinstance(value[0], OneStep) and isinstance(value[1], Clash) and shows_fit(book, value[0]) and shows_clash(book, value[1])
    kinds = (Kept, Simplest, (Highest, Endless), (SureNet, Unsure), (SureRoad, Ended, Roadless))
    checks = (shows_fit, shows_simplest, shows_rise, shows_sure_net, shows_road)
    return len(value) == 5 and all(isinstance(one, kind) and check(book, one) for one, kind, check in zip(value, kinds, checks))


class ToldWhole(unittest.TestCase):
    def test_papers(self):
        seen = {}
        for book in MANY:
            found = told_whole(book)
            self.assertIs(type(found), tuple)
            self.assertEqual(told_whole(book=book), found)
            if fit(book):
                self.assertEqual(found, (fit(book), simplest_turn(book), greatest_rise(book), sure_net(book), sure_road(book)))
                self.assertTrue(keeps(found[0].stem, book) and keeps(found[1].stem, book))
            else:
                self.assertEqual(found, (fit(book), clash(book)))
                self.assertTrue(denies(book.told, found[0]))
            self.assertTrue(is_whole(book, found))
            seen.update({paper.word: True for paper in found})
        self.assertEqual(len(seen), 11)

    def test_what_they_raise(self):
        check_wrong(self, told_whole, ("book", "book", EVEN))
        check_raises(self, TooMany("told", 12), told_whole, Book([NEVER] * 13))
        self.assertEqual(len(told_whole(Book(FREE + FREE))), 5)
        low, high = 1, 1
        for _ in range(62):
            low, high = high, low + high
        check_raises(self, TooMany("runs", 60), told_whole, Book(TurnIs(Ratio(low, high)).told))

    def test_short_time(self):
        begin = time.time()
        for book in MADE_UP[1500:1560]:
            self.assertTrue(shows_whole(book, told_whole(book)))
        self.assertLess(time.time() - begin, 6)


class ShowsWhole(unittest.TestCase):
    def test_what_is_returned(self):
        for book in MANY:
            self.assertIs(shows_whole(book, told_whole(book)), True)
            self.assertIs(shows_whole(book=book, value=list(told_whole(book))), True)

    def test_bent(self):
        for book in FEW:
            found = told_whole(book)
            others = [paper for other in FEW for paper in told_whole(other)] + [None, 0, (), found, Paper("kept", Stem(0, 1)), Kept(None), Kept(Stem(Ratio(1, 3), Ratio(2, 15)))]
            for at in range(len(found)):
                for other in others:
                    bent = (*found[:at], other, *found[at + 1:])
                    self.assertIs(shows_whole(book, bent), is_whole(book, bent))
                for bent in (found[:at] + found[at + 1:], (*found[:at], found[at], *found[at:]), (found[at],), found[::-1]):
                    self.assertIs(shows_whole(book, bent), is_whole(book, bent) and len(bent) == len(found))
            for other in FEW:
                self.assertIs(shows_whole(other, found), is_whole(other, found))

    def test_other_right_ones(self):
        # Any right papers: of a possible book a clash is none, of an impossible one five are none.
        self.assertIs(shows_whole(EVEN, (fit(EVEN), fit(EVEN))), False)
        self.assertIs(shows_whole(BLUNT, (fit(BLUNT), Clash([0, 1], OneStep([2, 2], A, 2, 0)))), True)
        self.assertIs(shows_whole(BLUNT, (fit(BLUNT), fit(BLUNT))), False)
        self.assertIs(shows_whole(Book([NEVER] * 13), (fit(Book([NEVER] * 13)), Clash([12], OneStep([1], None, 0, 0)))), True)
        flat = list(told_whole(FLAT))
        flat[0] = Kept(Stem(0, Ratio(1, 3)))
        self.assertIs(shows_whole(FLAT, flat), True)

    def test_other_values(self):
        for book in FEW:
            for value in [*ANY, *[[value] * 5 for value in ANY], *[(value, value) for value in ANY], told_whole(book) + (None,), {}, set()]:
                self.assertIs(shows_whole(book, value), False)
        check_wrong(self, lambda book: shows_whole(book, None), ("book", "book", EVEN))


class TheSameAnswers(unittest.TestCase):
    """Over the whole program: whichever way a thing is told."""

    def test_orders_and_measures(self):
        # Told in another order, twice, or so many times: possible, words, turns and rises are the same.
        for book in [book for book in MANY if 1 < len(book) <= 6][:60]:
            others = [Book(book.told[::-1]), Book(book.told * 2), Book([Told(told.kind, told.row * Ratio(7, 3)) for told in book])]
            for other in others:
                self.assertIs(bool(fit(other)), bool(fit(book)))
                if fit(book):
                    self.assertEqual(simplest_turn(other).turn, simplest_turn(book).turn)
                    self.assertEqual(greatest_rise(other).word, greatest_rise(book).word)
                    if greatest_rise(book).word == "highest":
                        self.assertEqual(greatest_rise(other).bound, greatest_rise(book).bound)
                    self.assertEqual([word_of(other, saying).word for saying in SAYINGS[::31]], [word_of(book, saying).word for saying in SAYINGS[::31]])
                    self.assertEqual((sure_net(other).word, sure_road(other).word), (sure_net(book).word, sure_road(book).word))

    def test_zero_is_least_twice(self):
        for book in MADE_UP[::50]:
            split = [one for told in book for one in ([Told.least(told.row), Told.least(-told.row)] if told.kind == "zero" else [told])]
            self.assertIs(bool(fit(Book(split))), bool(fit(book)))

    def test_as_a_book_at_a_height_and_counted(self):
        window = Window(0, 1)
        told = Book(TurnAtLeast(Ratio(3, 8)).told + TurnAtMost(Ratio(2, 5)).told)
        for book in [EVEN, FLAT, Book(), Book.read("zero 5 -2 0")]:
            seen = CountBook(book, window, [RightLeft(8, 5)])
            whole = Book(book.told + Rows([Told.above(Row(0, 8, -3)), Told.above(Row(0, -5, 2))]).told)
            self.assertIs(bool(fit_counts(seen)), bool(fit(whole)))
            self.assertIs(bool(fit_heights(Heights([book, told]))), bool(fit(book.joined(told))))
            for saying in SAYINGS[::23]:
                if fit(whole):
                    self.assertEqual(word_counts(seen, saying).word, word_of(whole, saying).word)
                    self.assertEqual(word_heights(Heights([whole]), 0, saying).word, word_of(whole, saying).word)

    def test_of_a_mirrored_post(self):
        for book in MANY[::3]:
            mirror = carried_book(book, Table.mirror())
            self.assertEqual([paper.word for paper in told_whole(mirror)], [paper.word for paper in told_whole(book)])
            if fit(book) and simplest_turn(book).turn != 0:
                self.assertEqual(simplest_turn(mirror).turn, -simplest_turn(book).turn)
                self.assertEqual(greatest_rise(mirror).word, greatest_rise(book).word)

    def test_on_the_desk(self):
        for number, book in enumerate(MANY[::4]):
            desk = Desk()
            desk.tell(f"keep b book {book}")
            answers = [desk.tell("fit b")]
            for word in ("turn", "rise", "net", "road"):
                if fit(book):
                    answers.append(desk.tell(f"{word} b"))
            if fit(book):
                kept, simple, rise, net, road = told_whole(book)
                due = [f"post {kept.stem}", str(simple.turn), str(rise.bound) if rise.word == "highest" else "endless", str(net.net) if net else f"unsure {net.one} {net.other}", str(road.road) if road else "roadless"]
                self.assertEqual(answers, due)
            else:
                self.assertEqual((answers, desk.tell("clash b")), (["never"], " ".join(str(one) for one in told_whole(book)[1].numbers)))

    def test_impossible_books_stay_so(self):
        for book in IMPOSSIBLE:
            paper = fit(book)
            more = book.with_told(FREE[0])
            self.assertTrue(shows_fit(more, OneStep([*paper.weights, 0], *paper.parts[1:])))
            self.assertFalse(fit(more))


if __name__ == "__main__":
    unittest.main()
