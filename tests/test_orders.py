"""Nets in an order, and the roads of heights; papers reckoned without the program."""

import time
import unittest

from spiralsays.books import Book
from spiralsays.errors import BadNet, Impossible, TooMany
from spiralsays.fractions import runs_of
from spiralsays.heights import Heights, Tie
from spiralsays.nets import Net
from spiralsays.orders import seen_in_order, sure_road_of
from spiralsays.ratios import Ratio
from spiralsays.roads import Road
from spiralsays.sayings import IsNet, TurnAbove, TurnAtLeast, TurnAtMost, TurnBelow, TurnIs
from spiralsays.stems import Stem
from spiralsays.tied_fits import KeptHeights, fit_heights, word_heights, word_turn
from spiralsays.turns import Ended, Roadless, SureRoad, sure_road
from heights_by_hand import FREE, MANY, TWO, denies_tied, keeps_tied, lines_of, with_more
from helpers import check_raises, check_wrong, fraction, has_net
from some_sayings import A, B, C
from test_roads import letters, walked
from test_tied_fits import full_heights
from test_turns import TURNED

NETS = [Net.first(0), Net(B, C - B), Net(B, C), Net(A, C), Net(A, A + C)]
POSSIBLE = [heights for heights in MANY if fit_heights(heights)]
IMPOSSIBLE = [heights for heights in MANY if not fit_heights(heights)]


def is_road_tied(heights, paper):
    """Whether a SureRoad, an Ended or a Roadless of heights is right; parts of any kind."""
    lines, ties = lines_of(heights), heights.ties

    def denies(saying, value):
        return denies_tied(with_more(lines, 0, saying.told), ties, value)

    def keep(*values):
        return all(keeps_tied(lines, ties, value) for value in values)

    if paper.word == "roadless":
        if not keep(paper.one, paper.other):
            return False
        low, high = fraction(paper.one.turn), fraction(paper.other.turn)
        return low < high and (low.denominator == 1 or high // 1 > low // 1)
    if not isinstance(paper.road, Road):
        return False
    if paper.word == "ended":
        if paper.road.kind not in ("edge", "ended"):
            return False
        turn = Ratio(paper.road.whole) if paper.road.kind == "edge" else walked(paper.road.whole, letters(paper.road.runs)).third.corner
        return denies(TurnBelow(turn), paper.low_paper) and denies(TurnAbove(turn), paper.high_paper) and keep(paper.stem)
    if paper.road.kind != "open":
        return False
    net = walked(paper.road.whole, letters(paper.road.runs))
    if not denies(TurnAtMost(net.low.corner), paper.low_paper) or not denies(TurnAtLeast(net.high.corner), paper.high_paper):
        return False
    if not keep(paper.one, paper.other):
        return False
    low, high = fraction(paper.one.turn), fraction(paper.other.turn)
    return low < high and low <= fraction(net.third.corner) <= high


def short(paper):
    """Whether the road's letters can be walked one by one."""
    return not hasattr(paper, "road") or paper.road.letters < 5000


class Orders(unittest.TestCase):
    def test_values(self):
        for many in range(1, 5):
            heights = seen_in_order(NETS[:many])
            self.assertEqual(heights, Heights([Book(IsNet(net).told) for net in NETS[:many]], [Tie(at, at + 1, "above") for at in range(many - 1)]))
            self.assertEqual(seen_in_order(nets=tuple(NETS[:many])), heights)
            self.assertTrue(fit_heights(heights))
            if many > 1:
                self.assertFalse(fit_heights(seen_in_order(NETS[:many][::-1])))
        check_raises(self, TooMany("heights", 4), seen_in_order, NETS)

    def test_kept(self):
        for nets in (NETS[:4], NETS[1:], NETS[::2], [NETS[2]] * 4, [Net.first(0), Net.first(1)], [Net.first(0), Net.first(0), NETS[3]]):
            found = fit_heights(seen_in_order(nets))
            stems = [Stem(found.turn, squared) for squared in found.squares]
            self.assertTrue(all(has_net(stem, net) for stem, net in zip(stems, nets)))
            self.assertTrue(all(fraction(one.squared) > fraction(other.squared) for one, other in zip(stems, stems[1:])))

    def test_that_do_not_follow_each_other(self):
        # By hand: (1, 0), (2, 1), (3, 1) ahead of (3, 1), (2, 1), (5, 2) says that D is above 1/3.
        order = seen_in_order([NETS[2], NETS[3]])
        self.assertEqual([word_turn(order, one).word for one in (TurnAbove(Ratio(1, 3)), TurnBelow(Ratio(1, 2)), TurnAbove(Ratio(2, 5)))], ["always", "always", "both"])
        # Nets far from each other: those on the way between them come, told or not.
        far = seen_in_order([NETS[0], NETS[4]])
        self.assertEqual([word_turn(far, one).word for one in (TurnAbove(Ratio(1, 3)), TurnBelow(Ratio(3, 8)), TurnBelow(Ratio(1, 3)))], ["always", "both", "nowhere"])
        self.assertEqual(word_heights(far, 0, IsNet(NETS[0])).word, "always")
        # Side by side, not one below the other.
        for nets in ([Net(B, A), Net(A, C)], [Net(A, C), Net(B, A)], [NETS[3], NETS[3], NETS[2]]):
            self.assertFalse(fit_heights(seen_in_order(nets)))
        # The same twice: of one height above another one.
        self.assertTrue(fit_heights(seen_in_order([NETS[3], NETS[3]])))

    def test_wrong(self):
        check_wrong(self, seen_in_order, ("nets", "nets", NETS[:2]))
        for value in ([], (), NETS + [None], [None] * 5, NETS[0]):
            check_raises(self, BadNet("nets"), seen_in_order, value)


class Roads(unittest.TestCase):
    def test_papers_are_right(self):
        words = {}
        for heights in POSSIBLE:
            paper = sure_road_of(heights)
            self.assertEqual(type(paper), {"sureroad": SureRoad, "ended": Ended, "roadless": Roadless}[paper.word])
            if short(paper):
                self.assertTrue(is_road_tied(heights, paper), str(heights))
            self.assertEqual(sure_road_of(heights=heights), paper)
            words[paper.word] = words.get(paper.word, 0) + 1
        self.assertGreater(min(words.values()), 20)
        self.assertEqual(len(words), 3)

    def test_as_of_a_book(self):
        for book in TURNED:
            due = sure_road(book)
            for heights in (Heights([book]), Heights([FREE, book, FREE], [Tie(0, 1, "above"), Tie(2, 1, "zero")])):
                found = sure_road_of(heights)
                self.assertEqual(found.word, due.word)
                if due:
                    self.assertEqual(found.road, due.road)

    def test_of_two_heights(self):
        # The turns lie between 2/5, told at one height, and 3/8, told at another one; neither has a road alone.
        split = Heights([Book(TurnAtLeast(Ratio(3, 8)).told), FREE, Book(TurnAtMost(Ratio(2, 5)).told)])
        found = sure_road_of(split)
        self.assertEqual(str(found.road), "0 open 1 1")
        self.assertEqual([len(line) for line in found.low_paper.weights], [2, 0, 1])
        self.assertEqual([type(one) for one in (found.one, found.other)], [KeptHeights] * 2)
        self.assertEqual([sure_road_of(split.alone(height)).word for height in (0, 1, 2)], ["roadless"] * 3)
        self.assertEqual(str(sure_road_of(Heights([FREE, Book(TurnIs(7).told)])).road), "7 edge")

    def test_impossible(self):
        for heights in IMPOSSIBLE:
            check_raises(self, Impossible(fit_heights(heights)), sure_road_of, heights)

    def test_sixty_runs(self):
        """A turn with sixty runs, and one with sixty-one; told at one height, the others free."""
        low, high = 1, 1
        for many in range(59, 63):
            low, high = 1, 1
            for _ in range(many):
                low, high = high, low + high
            turn = Ratio(low, high)
            heights = Heights([FREE, Book(TurnIs(turn).told)])
            if len(runs_of(turn)) <= 60:
                self.assertEqual(len(sure_road_of(heights).road.runs), len(runs_of(turn)))
            else:
                check_raises(self, TooMany("runs", 60), sure_road_of, heights)
                check_raises(self, Impossible(fit_heights(Heights([FREE, Book(TurnIs(turn).told + TurnIs(0).told)]))), sure_road_of, Heights([FREE, Book(TurnIs(turn).told + TurnIs(0).told)]))

    def test_wrong(self):
        check_wrong(self, sure_road_of, ("heights", "heights", TWO))

    def test_short_time(self):
        begin = time.time()
        for heights in full_heights():
            if fit_heights(heights):
                paper = sure_road_of(heights)
                self.assertTrue(not short(paper) or is_road_tied(heights, paper))
        self.assertLess(time.time() - begin, 8)


if __name__ == "__main__":
    unittest.main()
