"""The sure net of a book and the nets that come; papers and stems reckoned without the program."""

import random
import time
import unittest

from spiralsays.books import Book
from spiralsays.errors import BadNumber, Impossible
from spiralsays.fits import fit
from spiralsays.net_words import SureNet, Unsure, nets_that_come, sure_net
from spiralsays.nets import Net
from spiralsays.papers import Denial, Paper
from spiralsays.ratios import Ratio
from spiralsays.rows import Row, Told
from spiralsays.sayings import AsLong, IsNet, Nearest, RightAngle, TurnAtLeast, TurnAtMost, TurnIs
from spiralsays.stem_nets import nets_of
from spiralsays.stems import Stem
from spiralsays.steps import Step
from helpers import check_raises, check_wrong, fraction, has_net, keeps, up_to
from papers_by_hand import is_always
from some_books import BLUNT, BY_HAND, EVEN, FLAT, MADE_UP, made_up
from some_sayings import A, B, C, FIVE, NETS, ROUND


def book_of(*sayings):
    return Book([told for saying in sayings for told in saying.told])


# Pieces of one triangle, of a side, of a place; lines along sides and across them; places with three steps as long.
PLACED = [
    book_of(RightAngle(B, C)), book_of(RightAngle(A, C)), book_of(RightAngle(B, ROUND)), book_of(RightAngle(Step(5, 2), Step(3, 1))),
    book_of(RightAngle(B, C), TurnAtLeast(Ratio(1, 4)), TurnAtMost(Ratio(1, 3))), book_of(TurnIs(0)), book_of(TurnIs(Ratio(1, 2))),
    book_of(TurnIs(Ratio(2, 5))), book_of(AsLong(A, C), AsLong(C, B)), book_of(AsLong(A, C), AsLong(C, FIVE)), book_of(AsLong(B, C)),
    book_of(Nearest(B, C)), book_of(Nearest(C, A)), book_of(Nearest(A, FIVE)), Book(IsNet(Net(A, C)).told), Book.read("zero 1 0 -1"),
    Book.read("zero 1 -1/2 0 , above 0 1 -1/2"), Book.read("zero 1 -1/2 0 , least 0 -1 1/2"), Book.read("zero 0 1 0 , least -1 0 1/16"),
    Book.read("zero 0 1 -1/1234567 , above -1000000000000000 0 1234"), Book.read("zero 0 1 -7/16 , zero 1 0 -1/4"),
    book_of(RightAngle(Step(2, 1), Step(5, 2)), TurnAtLeast(Ratio(2, 5))), book_of(RightAngle(Step(2, 1), Step(5, 2)), TurnAtMost(Ratio(2, 5))),
]
PLACED += [Book(IsNet(net).told) for net in NETS] + [Book(IsNet(net).told).with_told(Told.above(Row(0, 3, -1))) for net in NETS]
POSSIBLE = [book for book in PLACED + [book for book, _ in BY_HAND] + MADE_UP[::8] if fit(book)]
IMPOSSIBLE = [book for book, possible in BY_HAND if not possible]


def share(one, other):
    """Whether two stems have a net in common."""
    return any(has_net(other, net) for net in nets_of(one)) or any(has_net(one, net) for net in nets_of(other))


class SureNets(unittest.TestCase):
    def test_papers_are_right(self):
        sure = 0
        for book in POSSIBLE:
            paper = sure_net(book)
            if paper:
                sure += 1
                self.assertIs(type(paper), SureNet)
                self.assertTrue(is_always(book.told, IsNet(paper.net).told, paper.papers), str(book))
            else:
                self.assertIs(type(paper), Unsure)
                for stem in (paper.one, paper.other):
                    self.assertTrue(keeps(stem, book))
                self.assertFalse(share(paper.one, paper.other), str(book))
        self.assertGreater(sure, 20)
        self.assertLess(sure, len(POSSIBLE) - 20)

    def test_nets_of_stems_are_nets(self):
        for book in POSSIBLE:
            stem = fit(book).stem
            self.assertTrue(all(has_net(stem, net) for net in nets_of(stem)))

    def test_first_of_two(self):
        # Along a side two nets are sure: the one of the lesser level, of two strips the lesser whole number, comes first.
        for text, net in (
            ("zero 2 -1 0", "1 0 1 1"), ("zero 0 1 0", "1 -1 0 1"), ("zero 0 1 -7", "1 6 0 1"), ("zero 6 -5 1", "1 0 2 1"),
            ("zero 1 -1/2 0 , above 0 1 -1/2", None), ("zero 1 0 -1/7 , zero 0 1 -5/14", "1 0 2 1"), ("zero 10 -9 2", "3 1 2 1"),
        ):
            if net is not None:
                self.assertEqual(str(sure_net(Book.read(text)).net), net, text)
        for book in POSSIBLE:
            paper = sure_net(book)
            if paper:
                stem = fit(book).stem
                ahead = list(nets_of(stem))[:list(nets_of(stem)).index(paper.net)]
                for net in ahead:
                    self.assertFalse(all(fit(book.with_told(told.contrary()[0])).word == "onestep" for told in IsNet(net).told))

    def test_by_hand(self):
        for book, net in ((book_of(TurnIs(Ratio(1, 2))), None), (Book(), None), (book_of(Nearest(C, A)), None), (book_of(AsLong(A, C), AsLong(C, B)), "1 0 2 1")):
            paper = sure_net(book)
            self.assertEqual(str(paper.net) if paper else None, net)
        for net in NETS:
            self.assertEqual(sure_net(Book(IsNet(net).told)).net, net)

    def test_great_levels(self):
        paper = sure_net(Book.read("zero 0 1 -1/12345678 , zero 1 0 -1/100000000000000"))
        self.assertGreater(paper.net.level, 1000)
        self.assertTrue(sure_net(Book.read("zero 0 1 -12345677/98765432 , zero -1 0 " + str(fraction(Ratio(12345677, 98765432)) ** 2 + fraction(Ratio(1, 10 ** 30))))))

    def test_wrong(self):
        check_wrong(self, sure_net, ("book", "book", EVEN))
        for book in IMPOSSIBLE + [BLUNT]:
            check_raises(self, Impossible(fit(book)), sure_net, book)
            check_raises(self, Impossible(fit(book)), nets_that_come, book, 0, 1, 3)

    def test_classes(self):
        self.assertEqual((SureNet(1, [[2]]).parts, SureNet(net=1, papers=2).net, SureNet(1, 2).papers, SureNet(1, 2).word), ((1, ((2,),)), 1, 2, "surenet"))
        self.assertEqual((Unsure(1, [2]).parts, Unsure(one=1, other=2).one, Unsure(1, 2).other, Unsure(1, 2).word), ((1, (2,)), 1, 2, "unsure"))
        self.assertEqual((SureNet.__bases__, Unsure.__bases__), ((Paper,), (Denial,)))
        self.assertEqual(sure_net(FLAT), sure_net(Book(list(FLAT.told))))

    def test_short_time(self):
        begin = time.time()
        for book in made_up(35, 6, 8):
            full = Book((list(book.told) * 20)[:20])
            if fit(full):
                sure_net(full)
                nets_that_come(full, Ratio(-1, 2), Ratio(1, 2), 60)
        self.assertLess(time.time() - begin, 20)


def corner(step):
    return fraction(step.corner)


def all_nets(low, high, deepest):
    """All nets down to a level whose turns reach into a window, by level and corner."""
    rows = [[Net.first(whole) for whole in range(int(fraction(low) // 1) - 2, int(fraction(high) // 1) + 3)]]
    for _ in range(deepest):
        rows.append([child for net in rows[-1] for child in net.children])
    return [net for row in rows for net in row]


class NetsThatCome(unittest.TestCase):
    def check(self, book, low, high, most):
        found = nets_that_come(book, low, high, most)
        self.assertIs(type(found), tuple)
        self.assertLessEqual(len(found), most)
        for net, stem in found:
            self.assertIs(type(net), Net)
            self.assertTrue(keeps(stem, book) and has_net(stem, net))
            self.assertTrue(fraction(low) <= fraction(stem.turn) <= fraction(high))
        order = [(net.level, corner(net.low)) for net, _ in found]
        self.assertEqual(order, sorted(set(order)))
        return [net for net, _ in found]

    def test_all_that_come(self):
        chance = random.Random(3)
        for book in [Book(), EVEN, FLAT] + POSSIBLE[::9]:
            low = Ratio(chance.randint(-4, 4), chance.randint(1, 5))
            for high in (low, low + Ratio(1, 7), low + 1):
                inside = book.told + TurnAtLeast(low).told + TurnAtMost(high).told
                due = [net for net in all_nets(low, high, 5) if fit(Book(inside + IsNet(net).told))]
                found = self.check(book, low, high, 60)
                lesser = [net for net in found if net.level <= 5]
                if len(found) < 60:
                    self.assertEqual(lesser, due, (str(book), low, high))
                else:
                    self.assertEqual(found[:len(lesser)], due[:len(lesser)])
                for most in (1, 2, 7, 59):
                    self.assertEqual(self.check(book, low, high, most), found[:most])

    def test_at_one_turn(self):
        for turn, most, due in (
            (0, 9, ["1 -1 0 1", "1 0 0 1"]), (Ratio(1, 2), 9, ["1 0 0 1", "1 0 1 1"]), (Ratio(2, 5), 9, ["1 0 0 1", "1 0 1 1", "1 0 2 1", "3 1 2 1"]),
            (Ratio(-7, 2), 9, ["1 -4 0 1", "1 -4 1 -3"]), (Ratio(1, 9), 3, ["1 0 0 1", "1 0 1 1", "1 0 2 1"]),
        ):
            self.assertEqual([str(net) for net in self.check(Book(), turn, turn, most)], due)

    def test_round_wide(self):
        self.assertEqual([str(net) for net in self.check(Book(), 0, 1, 4)], ["1 -1 0 1", "1 0 0 1", "1 1 0 1", "1 0 1 1"])
        self.assertEqual([str(net) for net in self.check(Book(), Ratio(1, 3), Ratio(4, 3), 5)], ["1 0 0 1", "1 1 0 1", "1 0 1 1", "1 1 1 2", "1 0 2 1"])
        self.assertEqual(len(self.check(Book(), Ratio(-1, 3), Ratio(2, 3), 60)), 60)

    def test_deep_ones_alone(self):
        # The uppermost net lies far below the strips.
        book = Book.read("zero 0 1 -1/1234567 , least -1000000000000 0 1")
        found = self.check(book, 0, 1, 60)
        self.assertGreater(found[0].level, 100)
        self.assertFalse(fit(Book(book.told + IsNet(found[0].parent).told)))
        # The uppermost one above that of the simplest stem, no letter or one letter on.
        for text, due in (("zero 0 1 -3/8 , least 1 0 -1/7 , least -1 0 19/100", "1 0 1 1"), ("zero 0 1 -3/8 , least 1 0 -1417/10000 , least -1 0 147/1000", "1 0 2 1")):
            found = self.check(Book.read(text), 0, 1, 60)
            self.assertEqual(str(found[0]), due)
            self.assertGreater(nets_of(fit(Book.read(text)).stem)[0].level, found[0].level)
        for turn, squared in ((Ratio(13, 34), Ratio(1, 10 ** 5)), (Ratio(7, 60), Ratio(1, 10 ** 6)), (Ratio(355, 1130), Ratio(1, 10 ** 7)), (Ratio(-29, 12), Ratio(1, 900))):
            deep = Book(TurnIs(turn).told + (Told.least(Row(-1, 0, turn * turn + squared)),))
            found = self.check(deep, turn.below, turn.below + 1, 60)
            self.assertEqual(found[0], nets_of(Stem(turn, turn * turn + squared))[0])
            self.assertFalse(fit(Book(deep.told + IsNet(found[0].parent).told)))
        self.assertEqual(self.check(Book(IsNet(Net(A, C)).told), 0, 1, 60)[0], Net(B, C))
        self.assertEqual(len(self.check(book_of(AsLong(A, C), AsLong(C, B)), 0, 1, 60)), 1)
        self.assertEqual([str(net) for net in self.check(book_of(RightAngle(A, C)), 0, 1, 60)], ["1 0 2 1", "3 1 2 1"])

    def test_at_no_such_turn(self):
        self.assertEqual(nets_that_come(Book(TurnIs(0).told), Ratio(1, 9), Ratio(1, 2), 5), ())
        self.assertEqual(nets_that_come(FLAT, 1, 2, 60), ())

    def test_full_books(self):
        book = Book([Told.least(Row(0, 1, 0))] * 40)
        self.assertEqual(len(self.check(book, 0, Ratio(1, 2), 10)), 10)

    def test_wrong(self):
        low = Ratio(1, 3)
        for book in (EVEN, BLUNT):
            high = (lambda value: not isinstance(value, bool) and isinstance(value, (int, Ratio)) and low.compared(value) <= 0 and (low + 1).compared(value) >= 0, BadNumber)
            check_wrong(self, nets_that_come, ("book", "book", book), ("low", "ratio", low), ("high", high, 1), ("most", up_to(1, 60), 5))
            for value in (Ratio(1, 4), Ratio(5, 4) + Ratio(1, 9), -5):
                check_raises(self, BadNumber("high"), nets_that_come, book, low, value, None)
            for most in (0, 61):
                check_raises(self, BadNumber("most"), nets_that_come, book, low, low, most)

    def test_again(self):
        self.assertEqual(nets_that_come(FLAT, 0, 1, 30), nets_that_come(Book(list(FLAT.told)), Ratio(0), Ratio(1), 30))
        self.assertEqual([type(stem) for _, stem in nets_that_come(FLAT, 0, 1, 3)], [Stem] * 3)


if __name__ == "__main__":
    unittest.main()
