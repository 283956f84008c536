"""What shows_sure_net and shows_sure_nearest take, and what they do not."""

import unittest

from spiralsays.books import Book
from spiralsays.check_nets import shows_sure_nearest, shows_sure_net
from spiralsays.fits import Kept, OneStep, fit
from spiralsays.map_pieces import SureNearest, sure_nearest
from spiralsays.net_words import SureNet, Unsure, sure_net
from spiralsays.nets import Net
from spiralsays.papers import Denial, Paper
from spiralsays.ratios import Ratio
from spiralsays.sayings import IsNet, Nearest, RightAngle, TurnAbove
from spiralsays.stem_nets import nets_of
from spiralsays.stems import Stem
from spiralsays.steps import Step
from spiralsays.words import Always
from helpers import ANY, check_wrong, has_net, is_nearest, keeps
from papers_by_hand import bends, is_always, other_ways
from some_books import BLUNT, EVEN, FLAT
from some_sayings import A, B, C, ROUND
from test_map_pieces import ALL, SIX, pairs_by_hand
from test_net_words import POSSIBLE, book_of

UPRIGHT = book_of(RightAngle(B, C))
LINES = ((OneStep((-1, 1), B, 1, 0),), (OneStep((1, 1), None, 0, 0),), (OneStep((-1, 1), C, 1, 0),))


def stems_of(book, paper):
    return all(isinstance(stem, Stem) and keeps(stem, book) for stem in (paper.one, paper.other))


def is_sure_net(book, paper):
    if paper.word == "surenet":
        return isinstance(paper.net, Net) and is_always(book.told, IsNet(paper.net).told, paper.papers)
    return stems_of(book, paper) and not any(has_net(paper.other, net) for net in nets_of(paper.one))


def is_sure_nearest(book, paper):
    if paper.word == "surenearest":
        if not isinstance(paper.one, Step) or not isinstance(paper.other, Step):
            return False
        if abs(paper.one.studs * paper.other.rounds - paper.other.studs * paper.one.rounds) != 1:
            return False
        return is_always(book.told, Nearest(paper.one, paper.other).told, paper.papers)
    if not stems_of(book, paper):
        return False
    return not any(is_nearest(paper.other, Step(k, j), Step(m, i)) for k, j, m, i in pairs_by_hand(paper.one))


FEW = [UPRIGHT, EVEN, book_of(Nearest(C, A)), Book(IsNet(Net(A, C)).told), Book()]


class ShowsSureNet(unittest.TestCase):
    def test_what_is_returned(self):
        for book in POSSIBLE:
            self.assertIs(shows_sure_net(book, sure_net(book)), True)

    def test_bent(self):
        for book in FEW:
            paper = sure_net(book)
            for bent in bends(paper):
                self.assertIs(shows_sure_net(book, bent), is_sure_net(book, bent), (str(book), bent.parts))
            for other in FEW:
                self.assertIs(shows_sure_net(other, paper), is_sure_net(other, paper))

    def test_other_right_ones(self):
        # The second net of the two, and other measures.
        self.assertIs(shows_sure_net(UPRIGHT, SureNet(Net(B, Step(1, 1)), LINES)), True)
        below = Book(IsNet(Net(B, C)).told + IsNet(Net(A, C)).told)
        for net in (Net(B, C), Net(A, C)):
            weights = [OneStep([0] * at + [1] + [0] * (5 - at) + [1], None, 0, 0) for at in range(6)]
            lines = [[one] for one in (weights[:3] if net == Net(B, C) else weights[3:])]
            self.assertIs(shows_sure_net(below, SureNet(net, lines)), True)
            self.assertIs(shows_sure_net(below, SureNet(net, lines[::-1])), False)
        for book in POSSIBLE[::4]:
            paper = sure_net(book)
            if paper:
                lines = [[other_ways(one)[-1] for one in line] for line in paper.papers]
                self.assertIs(shows_sure_net(book, SureNet(paper.net, lines)), True)

    def test_two_stems(self):
        stems = [SIX, Stem(Ratio(15, 38), Ratio(3, 19)), Stem(Ratio(2, 5), Ratio(1, 5)), Stem(0, 1), Stem(Ratio(1, 2), 1), Stem(Ratio(2, 5), Ratio(1, 6))]
        for one in stems:
            for other in stems:
                paper = Unsure(one, other)
                for book in (Book(), FLAT, book_of(TurnAbove(Ratio(1, 3)))):
                    self.assertIs(shows_sure_net(book, paper), is_sure_net(book, paper), (str(one), str(other)))
                    self.assertIs(shows_sure_nearest(book, paper), is_sure_nearest(book, paper), (str(one), str(other)))

    def test_of_impossible_books(self):
        own = [[OneStep([1, 1, 0], A, 1, 0)]] * 3
        self.assertIs(shows_sure_net(BLUNT, SureNet(Net.first(0), own)), True)
        self.assertIs(shows_sure_nearest(BLUNT, SureNearest(B, ROUND, own)), True)
        self.assertIs(shows_sure_net(BLUNT, Unsure(SIX, Stem(0, 1))), False)
        self.assertIs(shows_sure_nearest(BLUNT, Unsure(SIX, Stem(0, 1))), False)

    def test_other_values(self):
        right = sure_net(UPRIGHT)
        values = [*ANY, Kept(SIX), Always(right.papers), Paper("surenet", *right.parts), Denial("unsure", SIX, Stem(0, 1)), right.parts]
        values += [SureNet(value, right.papers) for value in ANY] + [SureNet(right.net, value) for value in ANY]
        values += [Unsure(SIX, value) for value in ANY] + [Unsure(value, SIX) for value in ANY]
        for value in values:
            expected = isinstance(value, SureNet) and is_sure_net(UPRIGHT, value)
            self.assertIs(shows_sure_net(UPRIGHT, value), expected)
            self.assertIs(shows_sure_nearest(UPRIGHT, value), False)

    def test_wrong(self):
        for call in (shows_sure_net, shows_sure_nearest):
            check_wrong(self, lambda book: call(book, None), ("book", "book", BLUNT))


class ShowsSureNearest(unittest.TestCase):
    def test_what_is_returned(self):
        for book in ALL:
            if fit(book):
                self.assertIs(shows_sure_nearest(book, sure_nearest(book)), True)

    def test_bent(self):
        for book in FEW[1:]:
            paper = sure_nearest(book)
            for bent in bends(paper):
                self.assertIs(shows_sure_nearest(book, bent), is_sure_nearest(book, bent), (str(book), bent.parts))
            for other in FEW:
                self.assertIs(shows_sure_nearest(other, paper), is_sure_nearest(other, paper))

    def test_other_right_ones(self):
        # Steps that are not upward: the rows are the same, or those of the product change places.
        book = book_of(Nearest(C, A))
        lines = [[OneStep([1, 0, 0, 1], None, 0, 0)], [OneStep([0, 1, 0, 1], None, 0, 0)], [OneStep([0, 0, 1, 1], None, 0, 0)]]
        for one, other, order in ((C, A, (0, 1, 2)), (-C, -A, (0, 1, 2)), (-C, A, (1, 0, 2)), (C, -A, (1, 0, 2))):
            self.assertIs(shows_sure_nearest(book, SureNearest(one, other, [lines[at] for at in order])), True)
            self.assertIs(shows_sure_nearest(book, SureNearest(one, other, [lines[at] for at in (order[1], order[0], 2)])), False)
        self.assertIs(shows_sure_nearest(book, SureNearest(A, C, lines)), False)
        self.assertIs(shows_sure_nearest(book, SureNearest(C, B + A, lines)), False)

    def test_other_values(self):
        book = book_of(Nearest(C, A))
        right = sure_nearest(book)
        values = [*ANY, Paper("surenearest", *right.parts), sure_net(UPRIGHT), right.papers, SureNearest(C, C * 2, right.papers), SureNearest(B, A, right.papers)]
        values += [SureNearest(value, A, right.papers) for value in ANY if value != C] + [SureNearest(C, A, value) for value in ANY]
        for value in values:
            self.assertIs(shows_sure_nearest(book, value), False)


if __name__ == "__main__":
    unittest.main()
