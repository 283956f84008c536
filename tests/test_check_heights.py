"""What the checks of heights take, and what they do not."""

import unittest

from spiralsays.books import Book
from spiralsays.check_heights import (
    shows_count_heights, shows_heights, shows_road_of, shows_word_count_heights, shows_word_heights, shows_word_tie,
)
from spiralsays.counted import NearerStud, OneWay, RightLeft, SeenBoth
from spiralsays.cuts import cuts
from spiralsays.errors import BadHeights, NoHeight
from spiralsays.fits import Kept, OneStep, fit
from spiralsays.heights import Heights, Tie
from spiralsays.orders import sure_road_of
from spiralsays.papers import Denial, Paper
from spiralsays.ratios import Ratio
from spiralsays.roads import Road
from spiralsays.sayings import LeansRight, Nearest, Rows, TurnAbove, TurnBelow, TurnIs
from spiralsays.stems import Stem
from spiralsays.steps import Step
from spiralsays.tied_counts import CountHeights, fit_count_heights, word_count_heights
from spiralsays.tied_fits import KeptHeights, OneStepHeights, fit_heights, word_heights, word_tie
from spiralsays.told_counts import KeptCounts, NoStretch
from spiralsays.turns import Ended, Roadless, SureRoad
from spiralsays.windows import Window
from spiralsays.words import Always, Both, Nowhere
from heights_by_hand import (
    BLUNT, EVEN, FREE, MANY, TWO, bends_of_paper, denies_tied, is_word_of_tie, is_word_tied, keeps_tied, lines_of, other_way_tied,
    other_ways_tied, tie,
)
from helpers import ANY, check_raises, check_wrong
from some_sayings import A, C, SAYINGS
from test_orders import POSSIBLE, is_road_tied, short
from test_tied_counts import ASKED, COUNTED, SEEN, UNIT, is_counted, is_word_counted, keeps_counted
from test_tied_fits import OF_TURNS, TIES

KEPT = KeptHeights(Ratio(7, 18), [Ratio(7, 45), Ratio(11, 72)])
FEW = [TWO, Heights([FREE]), Heights([BLUNT, FREE], [tie("1 0 least")]), Heights([FREE] * 3, [tie("0 1 least"), tie("1 2 above"), tie("2 0 zero")]),
       Heights.read("least -1 0 1/7 | - | above 1 0 -1/7 ; 0 1 least , 1 2 zero"), Heights([EVEN, FREE], [tie("0 1 zero")]), Heights.read("least -1 0 1/9 | least 0 1 -1/3")]
NEVER = OneStepHeights([[1, 1], []], [0], A, [1, 0], 0)


def others_of(right):
    """The same parts, but no paper of this class; and papers of other classes."""
    return [right.parts, Paper(right.word, *right.parts), Denial(right.word, *right.parts), Kept(Stem(0, 1)), OneStep([1, 1], A, 1, 0), KeptCounts(Stem(0, 1)), NoStretch([]), Unlike()]


class Unlike:
    """A value that is no paper, with the attributes of one."""

    turn, squares, weights, tie_weights, step, times, rest, word = 0, (1, 1), ((), ()), (0,), None, (0, 0), 1, "keptheights"


class ShowsHeights(unittest.TestCase):
    def test_what_is_returned(self):
        for heights in MANY:
            self.assertIs(shows_heights(heights, fit_heights(heights)), True)

    def test_bent(self):
        for heights in FEW:
            paper = fit_heights(heights)
            right = keeps_tied if paper else denies_tied
            seen = {True: 0, False: 0}
            for bent in bends_of_paper(paper):
                due = right(lines_of(heights), heights.ties, bent)
                self.assertIs(shows_heights(heights, bent), due, (str(heights), bent.parts))
                seen[due] += 1
            self.assertGreater(seen[False], 20)

    def test_of_other_heights(self):
        for heights in FEW:
            paper = fit_heights(heights)
            right = keeps_tied if paper else denies_tied
            for other in MANY:
                self.assertIs(shows_heights(other, paper), right(lines_of(other), other.ties, paper))

    def test_other_right_ones(self):
        for heights in MANY:
            paper = fit_heights(heights)
            if not paper:
                for other in other_ways_tied(paper):
                    self.assertTrue(denies_tied(lines_of(heights), heights.ties, other))
                    self.assertIs(shows_heights(heights, other), True)
                turned = OneStepHeights(paper.weights[::-1], *paper.parts[1:])
                self.assertIs(shows_heights(heights, turned), denies_tied(lines_of(heights), heights.ties, turned))
        for turn, squares, due in (
            (Ratio(7, 18), (Ratio(7, 45), Ratio(11, 72)), True), (Ratio(2, 5), (Ratio(4, 25), Ratio(13, 80)), False), (Ratio(5, 13), [Ratio(2, 13), Ratio(31, 208)], True),
            (Ratio(7, 18), (Ratio(7, 45),), False), (Ratio(7, 18), (Ratio(7, 45), Ratio(11, 72), 1), False), (Ratio(3, 8), (Ratio(3, 20), Ratio(9, 64)), False),
            (Ratio(15, 38), (Ratio(3, 19), Ratio(3, 19)), False), (Ratio(7, 18), (Ratio(11, 72), Ratio(7, 45)), False),
        ):
            self.assertIs(shows_heights(TWO, KeptHeights(turn, squares)), due)

    def test_ties_alone(self):
        ring = FEW[3]
        right = OneStepHeights([[], [], []], [1, 1, 1], None, [0, 0, 0], 0)
        self.assertIs(shows_heights(ring, right), True)
        for weights, times, step, rest, due in (
            ([1, 1, 1], [0, 0, 0], None, 1, False), ([1, 1, -1], [0, 0, 0], None, 0, False), ([0, 0, 0], [0, 0, 0], None, 0, False), ([1, 1, 1], [0, 0, 0], A, 0, False),
            ([2, 2, 2], [0, 0, 0], None, 0, True), ([-1, -1, -1], [0, 0, 0], None, 0, False), ([1, 1], [0, 0, 0], None, 0, False), ([1, 1, 1, 0], [0, 0, 0], None, 0, False),
            ([1, 1, True], [0, 0, 0], None, 0, False), ([1, 1, 1], [0, 0, False], None, 0, False), ([1, 1, 1], [0, 0], None, 0, False), ([1, 1, 1], [0, 0, 0], None, None, False),
        ):
            self.assertIs(shows_heights(ring, OneStepHeights([[], [], []], weights, step, times, rest)), due, (weights, times))
        # A ring without an above tie denies nothing, whatever the zero ones weigh.
        plain = Heights([FREE] * 2, [tie("0 1 least"), tie("0 1 zero"), tie("1 0 least")])
        for weights in ([1, 0, 1], [1, -1, 0], [0, 1, 1]):
            self.assertIs(shows_heights(plain, OneStepHeights([[], []], weights, None, [0, 0], 0)), False)
        strict = plain.with_tie(tie("1 0 above"))
        self.assertIs(shows_heights(strict, OneStepHeights([[], []], [0, 1, 0, 1], None, [0, 0], 0)), True)
        self.assertIs(shows_heights(strict, OneStepHeights([[], []], [0, 1, 1, 0], None, [0, 0], 0)), False)

    def test_steps(self):
        low = Heights.read("least -1 0 0 | -")
        for step, times, due in (
            (Step(1, 0), [1, 0], True), (Step(2, 0), [Ratio(1, 4), 0], True), (Step(-1, 0), [1, 0], False), (Step.one_round(), [1, 0], False), (Step(1, 0), [0, 1], False),
            (Step(1, 0), [1, 1], False), (None, [1, 0], False), (Step(1, 1), [1, 0], False), (Step(1, 0), [2, -1], False), (Step(1, 0), [True, 0], False), ((1, 0), [1, 0], False),
        ):
            self.assertIs(shows_heights(low, OneStepHeights([[1], []], [], step, times, 0)), due, (str(step), times))
        # One step for both heights, at each its own times.
        both = Heights.read("least -2 4 -2 | least -3 6 -3")
        self.assertIs(shows_heights(both, OneStepHeights([[1], [1]], [], Step(1, 1), [2, 3], 0)), True)
        self.assertIs(shows_heights(both, OneStepHeights([[1], [1]], [], Step(1, 1), [3, 2], 0)), False)
        self.assertIs(shows_heights(both, OneStepHeights([[1], [0]], [], Step(1, 1), [2, 0], 0)), True)
        rest = Heights.read("least -2 4 -2 | least 0 0 -7")
        self.assertIs(shows_heights(rest, OneStepHeights([[1], [1]], [], Step(1, 1), [2, 0], 7)), True)
        self.assertIs(shows_heights(rest, OneStepHeights([[1], [1]], [], Step(1, 1), [2, 0], 0)), False)
        self.assertIs(shows_heights(rest, OneStepHeights([[0], [1]], [], None, [0, 0], 7)), True)
        self.assertIs(shows_heights(rest, OneStepHeights([[0], [1]], [], None, [0, 0], -7)), False)

    def test_other_values(self):
        for heights in FEW:
            for value in [one for one in ANY if not isinstance(one, KeptHeights)] + others_of(fit_heights(heights)):
                self.assertIs(shows_heights(heights, value), False)
        for value in ANY:
            self.assertIs(shows_heights(TWO, KeptHeights(value, KEPT.squares)), False)
            self.assertIs(shows_heights(TWO, KeptHeights(KEPT.turn, value)), False)
        check_wrong(self, lambda heights: shows_heights(heights, None), ("heights", "heights", TWO))


class ShowsWords(unittest.TestCase):
    def test_what_is_returned(self):
        for at, heights in enumerate(POSSIBLE):
            height = at % len(heights)
            for saying in (SAYINGS[at % len(SAYINGS)], OF_TURNS[at % len(OF_TURNS)]):
                self.assertIs(shows_word_heights(heights, height, saying, word_heights(heights, height, saying)), True)
            for one in TIES[at % 7::7]:
                if max(one.one, one.other) < len(heights):
                    self.assertIs(shows_word_tie(heights, one, word_tie(heights, one)), True)

    def test_bent(self):
        for height, saying in ((0, TurnAbove(Ratio(3, 8))), (1, TurnBelow(Ratio(3, 8))), (1, TurnBelow(Ratio(5, 13))), (0, Rows(EVEN.told)), (1, Nearest(A, C)), (1, TurnIs(0))):
            paper = word_heights(TWO, height, saying)
            for bent in bends_of_paper(paper):
                self.assertIs(shows_word_heights(TWO, height, saying, bent), is_word_tied(lines_of(TWO), TWO.ties, height, saying.told, bent), (str(saying), bent.parts))
            for other in POSSIBLE[::11]:
                for at in range(len(other)):
                    self.assertIs(shows_word_heights(other, at, saying, paper), is_word_tied(lines_of(other), other.ties, at, saying.told, paper))

    def test_bent_of_ties(self):
        for heights in (TWO, Heights([FREE] * 3, [tie("0 1 least"), tie("1 2 zero")]), Heights([EVEN, FREE], [tie("0 1 zero")])):
            for one in TIES:
                if max(one.one, one.other) < len(heights):
                    paper = word_tie(heights, one)
                    for bent in bends_of_paper(paper, 1):
                        self.assertIs(shows_word_tie(heights, one, bent), is_word_of_tie(lines_of(heights), heights.ties, one, bent), (str(one), bent.parts))
                    for other in TIES:
                        if max(other.one, other.other) < len(heights):
                            self.assertIs(shows_word_tie(heights, other, paper), is_word_of_tie(lines_of(heights), heights.ties, other, paper))

    def test_other_right_ones(self):
        for at, heights in enumerate(POSSIBLE[::3]):
            height = at % len(heights)
            for saying in (SAYINGS[at % len(SAYINGS)], OF_TURNS[at % len(OF_TURNS)]):
                paper = word_heights(heights, height, saying)
                if paper.word == "both":
                    self.assertIs(shows_word_heights(heights, height, saying, Both(paper.broken, paper.kept)), False)
                else:
                    self.assertIs(shows_word_heights(heights, height, saying, type(paper)(other_way_tied(paper.parts[0]))), True)

    def test_of_impossible_heights(self):
        # By sums alone; no Both.
        never = Heights([BLUNT, FREE], [tie("1 0 least")])
        one = OneStepHeights([[1, 1, 0], []], [0], A, [1, 0], 0)
        other = OneStepHeights([[1, 1], [0]], [0], A, [1, 0], 0)
        of_tie = OneStepHeights([[1, 1], []], [0, 0], A, [1, 0], 0)
        self.assertIs(shows_word_heights(never, 0, TurnBelow(0), Always([[one]])), True)
        self.assertIs(shows_word_heights(never, 0, TurnBelow(0), Nowhere(one)), True)
        self.assertIs(shows_word_heights(never, 1, TurnBelow(0), Nowhere(other)), True)
        self.assertIs(shows_word_heights(never, 1, TurnBelow(0), Nowhere(one)), False)
        self.assertIs(shows_word_heights(never, 1, TurnIs(0), Always([[other, other]])), True)
        self.assertIs(shows_word_tie(never, tie("0 1 above"), Nowhere(of_tie)), True)
        self.assertIs(shows_word_tie(never, tie("0 1 zero"), Always([[of_tie, of_tie]])), True)
        self.assertIs(shows_word_tie(never, tie("0 1 zero"), Always([[of_tie]])), False)
        for value in (Both(KEPT, KEPT), Both(KEPT, KeptHeights(0, [1, 1])), NEVER, KEPT):
            self.assertIs(shows_word_heights(never, 0, TurnBelow(0), value), False)
            self.assertIs(shows_word_tie(never, tie("0 1 zero"), value), False)

    def test_other_values(self):
        right = word_heights(TWO, 0, TurnAbove(Ratio(3, 8)))
        values = [*ANY, *others_of(right), right.papers[0][0]]
        values += [kind(value) for kind in (Always, Nowhere) for value in ANY] + [Both(KEPT, value) for value in ANY] + [Both(value, KEPT) for value in ANY]
        for value in values:
            for saying in (TurnAbove(Ratio(3, 8)), TurnIs(Ratio(7, 18))):
                self.assertIs(shows_word_heights(TWO, 0, saying, value), False)
            self.assertIs(shows_word_tie(TWO, tie("0 1 zero"), value), False)

    def test_wrong(self):
        call = lambda heights, height, saying: shows_word_heights(heights, height, saying, None)
        check_wrong(self, call, ("heights", "heights", TWO), ("height", "height of two", 0), ("saying", "saying", LeansRight(A)))
        check_wrong(self, lambda heights, one: shows_word_tie(heights, one, None), ("heights", "heights", TWO), ("tie", "tie", tie("0 1 zero")))
        check_raises(self, NoHeight(2), shows_word_tie, TWO, Tie(2, 3, "zero"), None)
        check_raises(self, NoHeight(3), shows_word_tie, TWO, Tie(1, 3, "zero"), None)
        check_raises(self, BadHeights("heights"), shows_word_heights, None, 5, None, None)
        self.assertIs(shows_word_heights(heights=TWO, height=0, saying=LeansRight(A), value=None), False)
        self.assertIs(shows_word_tie(heights=TWO, tie=tie("0 1 zero"), value=None), False)


class ShowsCounts(unittest.TestCase):
    def test_what_is_returned(self):
        for count_heights in COUNTED:
            self.assertIs(shows_count_heights(count_heights, fit_count_heights(count_heights)), True)
        for count_heights, height, asked in ASKED:
            if fit_count_heights(count_heights):
                self.assertIs(shows_word_count_heights(count_heights, height, asked, word_count_heights(count_heights, height, asked)), True)

    def test_bent(self):
        never = [one for one in COUNTED if not fit_count_heights(one) and 1 <= len(fit_count_heights(one).papers) <= 3]
        for count_heights in [SEEN, *never[:3]]:
            paper = fit_count_heights(count_heights)
            for bent in bends_of_paper(paper):
                self.assertIs(shows_count_heights(count_heights, bent), is_counted(count_heights, bent), bent.parts)
            for other in COUNTED:
                self.assertIs(shows_count_heights(other, paper), is_counted(other, paper))

    def test_bent_words(self):
        words = {}
        for count_heights, height, asked in ASKED:
            if not fit_count_heights(count_heights):
                continue
            paper = word_count_heights(count_heights, height, asked)
            key = (paper.word, isinstance(asked, (RightLeft, SeenBoth, OneWay, NearerStud)))
            if words.get(key, 0) < 1 and (paper.word == "both" or len(paper.parts[0]) < 4):
                words[key] = words.get(key, 0) + 1
                for bent in bends_of_paper(paper, 1)[::3]:
                    self.assertIs(shows_word_count_heights(count_heights, height, asked, bent), is_word_counted(count_heights, height, asked, bent), (str(asked), bent.parts))
        self.assertEqual(len(words), 6)

    def test_other_right_ones(self):
        for count_heights in COUNTED:
            paper = fit_count_heights(count_heights)
            if not paper and len(paper.papers) > 0:
                self.assertIs(shows_count_heights(count_heights, NoStretch(other_way_tied(paper.papers))), True)
                self.assertIs(shows_count_heights(count_heights, NoStretch(paper.papers[1:])), False)
                self.assertIs(shows_count_heights(count_heights, NoStretch(paper.papers + paper.papers[:1])), False)
        for count_heights, height, asked in ASKED[::3]:
            if fit_count_heights(count_heights):
                paper = word_count_heights(count_heights, height, asked)
                if paper.word == "both":
                    for one, other in ((paper.broken, paper.kept), (paper.kept, paper.kept), (paper.broken, paper.broken)):
                        self.assertIs(shows_word_count_heights(count_heights, height, asked, Both(one, other)), False)
                else:
                    self.assertIs(shows_word_count_heights(count_heights, height, asked, type(paper)(other_way_tied(paper.parts[0]))), True)
                    self.assertIs(shows_word_count_heights(count_heights, height, asked, type(paper)(paper.parts[0] + paper.parts[0][:1])), False)

    def test_kept(self):
        for turn in (Ratio(7, 18), Ratio(2, 5), Ratio(5, 13), Ratio(39, 100)):
            for squares in ((turn * Ratio(2, 5), (turn * 14 - 3) * Ratio(1, 16)), (1, 1), (turn * Ratio(2, 5), turn * turn)):
                value = KeptHeights(turn, squares)
                self.assertIs(shows_count_heights(SEEN, value), keeps_counted(SEEN, value))
        # A turn out of the window, a thing that does not hold at its height.
        free = CountHeights(Heights([FREE, FREE]), Window(0, Ratio(1, 2)), [[], [OneWay(2, "left")]])
        for turn, due in ((Ratio(1, 3), True), (Ratio(1, 2), False), (Ratio(1, 4), True), (Ratio(1, 5), False), (Ratio(4, 3), False)):
            self.assertIs(shows_count_heights(free, KeptHeights(turn, [9, 9])), due)

    def test_many_cuts(self):
        things = [[NearerStud(21, 20), NearerStud(19, 17)], [NearerStud(13, 11), NearerStud(18, 16)]]
        denied = CountHeights(Heights([BLUNT, FREE]), UNIT, things)
        many = len(cuts(things[0] + things[1], UNIT)) + 1
        self.assertGreater(many, 102)
        own = OneStepHeights([[1, 1, 0, 0, 0, 0], [0, 0]], [], A, [1, 0], 0)
        more = OneStepHeights([[1, 1, 0, 0, 0, 0], [0, 0, 0]], [], A, [1, 0], 0)
        for number in (many - 1, many, many + 1):
            self.assertIs(shows_count_heights(denied, NoStretch([own] * number)), number == many)
        self.assertIs(shows_word_count_heights(denied, 1, TurnBelow(0), Always([[[more]]] * many)), True)
        self.assertIs(shows_word_count_heights(denied, 1, TurnBelow(0), Nowhere([more] * many)), True)
        self.assertIs(shows_word_count_heights(denied, 1, TurnBelow(0), Nowhere([own] * many)), False)
        self.assertIs(shows_word_count_heights(denied, 1, TurnBelow(0), Both(KEPT, KEPT)), False)

    def test_other_values(self):
        for value in [*ANY, *others_of(fit_count_heights(SEEN))]:
            self.assertIs(shows_count_heights(SEEN, value), False)
        right = word_count_heights(SEEN, 0, SeenBoth(3, 2))
        values = [*ANY, *others_of(right)] + [kind(value) for kind in (Always, Nowhere) for value in ANY] + [Both(KEPT, value) for value in ANY] + [Both(value, KEPT) for value in ANY]
        for value in values:
            self.assertIs(shows_word_count_heights(SEEN, 1, SeenBoth(3, 2), value), False)
            self.assertIs(shows_word_count_heights(SEEN, 1, TurnIs(Ratio(7, 18)), value), False)

    def test_wrong(self):
        check_wrong(self, lambda count_heights: shows_count_heights(count_heights, None), ("count_heights", "count heights", SEEN))
        call = lambda count_heights, height, saying: shows_word_count_heights(count_heights, height, saying, None)
        check_wrong(self, call, ("count_heights", "count heights", SEEN), ("height", "height of two", 1), ("saying", "saying or thing", RightLeft(3, 2)))
        self.assertIs(shows_word_count_heights(count_heights=SEEN, height=1, saying=TurnIs(0), value=None), False)
        self.assertIs(shows_count_heights(count_heights=SEEN, value=None), False)


class ShowsRoads(unittest.TestCase):
    def test_what_is_returned(self):
        for heights in POSSIBLE:
            self.assertIs(shows_road_of(heights, sure_road_of(heights)), True)

    def test_bent(self):
        roads = [Road(whole, runs, kind) for whole in (0, 1) for runs in ((), (1,), (1, 1), (1, 1, 1, 1)) for kind in ("open", "ended")] + [Road(0, (), "edge"), Road(0, (), "first"), None]
        for heights in (TWO, Heights([EVEN, FREE]), Heights([FREE, Book(TurnIs(Ratio(2, 5)).told)], [tie("0 1 above")]), Heights([FREE, Book(TurnIs(3).told)])):
            paper = sure_road_of(heights)
            bents = bends_of_paper(paper, 1)
            if paper.word != "roadless":
                bents += [type(paper)(road, *paper.parts[1:]) for road in roads]
            for bent in bents:
                self.assertIs(shows_road_of(heights, bent), is_road_tied(heights, bent), (str(heights), bent.parts))
            for other in POSSIBLE[::7]:
                self.assertIs(shows_road_of(other, paper), is_road_tied(other, paper))

    def test_other_right_ones(self):
        for heights in POSSIBLE[::3]:
            paper = sure_road_of(heights)
            if paper.word == "sureroad":
                other = SureRoad(paper.road, other_way_tied(paper.low_paper), other_way_tied(paper.high_paper), paper.one, paper.other)
                self.assertIs(shows_road_of(heights, other), True)
                self.assertIs(shows_road_of(heights, SureRoad(paper.road, paper.low_paper, paper.high_paper, paper.other, paper.one)), False)
                self.assertIs(shows_road_of(heights, SureRoad(paper.road, paper.high_paper, paper.low_paper, paper.one, paper.other)), False)
            if paper.word == "ended":
                self.assertIs(shows_road_of(heights, Ended(paper.road, other_way_tied(paper.low_paper), other_way_tied(paper.high_paper), paper.stem)), True)
        free = Heights([FREE, FREE])
        for one, other, due in ((0, 1, True), (Ratio(1, 3), Ratio(1, 2), False), (Ratio(-1, 2), Ratio(1, 2), True), (1, 0, False), (2, 2, False), (Ratio(1, 2), 1, True)):
            self.assertIs(shows_road_of(free, Roadless(KeptHeights(one, [9, 8]), KeptHeights(other, [9, 9]))), due)
            self.assertIs(shows_road_of(free, Roadless(Stem(one, 9), Stem(other, 9))), False)

    def test_of_impossible_heights(self):
        never = Heights([BLUNT, FREE])
        own = OneStepHeights([[1, 1, 0], []], [], A, [1, 0], 0)
        values = [SureRoad(Road(0, [1, 1], "open"), own, own, KeptHeights(Ratio(3, 8), [1, 1]), KeptHeights(Ratio(2, 5), [1, 1])), Ended(Road(0, [], "edge"), own, own, KeptHeights(0, [1, 1]))]
        for value in [*values, Roadless(KeptHeights(0, [9, 9]), KeptHeights(1, [9, 9])), own, fit(BLUNT)]:
            self.assertIs(shows_road_of(never, value), False)

    def test_other_values(self):
        right = sure_road_of(TWO)
        for value in [*ANY, *others_of(right), fit_heights(TWO)]:
            self.assertIs(shows_road_of(TWO, value), False)
        for at in range(5):
            for value in ANY:
                bent = SureRoad(*right.parts[:at], value, *right.parts[at + 1:])
                self.assertIs(shows_road_of(TWO, bent), is_road_tied(TWO, bent))
        check_wrong(self, lambda heights: shows_road_of(heights, None), ("heights", "heights", TWO))
        self.assertIs(shows_road_of(heights=TWO, value=right), True)
        self.assertTrue(short(right))


if __name__ == "__main__":
    unittest.main()
