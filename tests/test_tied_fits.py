"""Heights: whether they are possible, and words over them; papers reckoned without the program."""

import time
import unittest

from spiralsays.books import Book
from spiralsays.errors import BadHeights, BadSaying, Impossible, NoHeight
from spiralsays.heights import Heights, Tie
from spiralsays.papers import Denial, Paper
from spiralsays.ratios import Ratio
from spiralsays.rows import Row, Told
from spiralsays.sayings import (
    LeansRight, Rows, Shorter, TurnAbove, TurnAtLeast, TurnAtMost, TurnBelow, TurnIs,
)
from spiralsays.tied_fits import (
    KeptHeights, OneStepHeights, fit_heights, is_surer, word_heights, word_tie, word_turn,
)
from spiralsays.words import Always, Both, Nowhere, word_of
from heights_by_hand import (
    BY_HAND, EVEN, FREE, MANY, TWO, denies_tied, has_at, is_word_of_tie, is_word_tied, keeps_tied, lines_of, made_up_heights, tie,
)
from helpers import ANY, check_raises, check_wrong
from some_books import BLUNT
from some_sayings import A, B, C, SAYINGS

TIES = [Tie(one, other, kind) for one in range(4) for other in range(4) for kind in ("zero", "least", "above") if one != other]
POSSIBLE = [heights for heights in MANY if fit_heights(heights)]
IMPOSSIBLE = [heights for heights in MANY if not fit_heights(heights)]
OF_TURNS = [kind(value) for kind in (TurnAtMost, TurnAtLeast, TurnBelow, TurnAbove, TurnIs) for value in (0, Ratio(1, 3), Ratio(3, 8), Ratio(7, 18), -2)]


class Papers(unittest.TestCase):
    def test_papers(self):
        kept = KeptHeights(turn=0, squares=[1, Ratio(1, 2)])
        self.assertEqual((kept.word, kept.turn, kept.squares, kept.parts), ("keptheights", 0, (1, Ratio(1, 2)), (0, (1, Ratio(1, 2)))))
        self.assertIs(bool(kept), True)
        self.assertIsInstance(kept, Paper)
        self.assertNotIsInstance(kept, Denial)
        denial = OneStepHeights(weights=[[1], []], tie_weights=[2], step=A, times=[0, 1], rest=None)
        self.assertEqual((denial.word, denial.parts), ("onestepheights", (((1,), ()), (2,), A, (0, 1), None)))
        self.assertEqual((denial.weights, denial.tie_weights, denial.step, denial.times, denial.rest), denial.parts)
        self.assertIs(bool(denial), False)
        self.assertIsInstance(denial, Denial)
        self.assertEqual(KeptHeights(0, (1,)), KeptHeights(0, [1]))
        self.assertNotEqual(KeptHeights(0, (1,)), KeptHeights(0, (2,)))
        self.assertEqual(KeptHeights(None, {}).parts, (None, {}))


class Fits(unittest.TestCase):
    def test_by_hand(self):
        for heights, due in BY_HAND:
            self.assertIs(bool(fit_heights(heights)), due, str(heights))

    def test_papers_are_right(self):
        seen = {}
        for heights in MANY:
            paper = fit_heights(heights)
            self.check_ratios(paper)
            if paper:
                self.assertIs(type(paper), KeptHeights)
                self.assertTrue(keeps_tied(lines_of(heights), heights.ties, paper), str(heights))
                self.assertIs(heights.holds(paper.turn, paper.squares), True)
            else:
                self.assertIs(type(paper), OneStepHeights)
                self.assertTrue(denies_tied(lines_of(heights), heights.ties, paper), str(heights))
                self.assertTrue(paper.step is None or paper.step.divisor == 1)
            self.assertEqual(fit_heights(Heights(list(heights.books), list(heights.ties))), paper)
            seen[paper.word, len(heights), paper.word == "onestepheights" and paper.step is None] = True
        self.assertEqual(len(seen), 12)

    def check_ratios(self, paper):
        """Ratios in papers are Ratios, and there are no lists."""
        def look(value):
            if isinstance(value, tuple):
                for one in value:
                    look(one)
            elif value is not None and not isinstance(value, type(A)):
                self.assertIs(type(value), Ratio)
        look(paper.parts)

    def test_one_height_is_a_book(self):
        for heights in MANY:
            if len(heights) == 1 and not heights.ties:
                paper = fit_heights(heights)
                self.assertEqual(bool(paper), word_of(FREE, Rows(heights.books[0].told)).word != "nowhere" if len(heights.books[0]) else True)

    def test_together_they_say_what_each_says(self):
        for heights in POSSIBLE[::3]:
            for height in range(len(heights)):
                self.assertTrue(fit_heights(heights.alone(height)))
            if len(heights) < 4:
                self.assertTrue(fit_heights(Heights([*heights.books, FREE], heights.ties)))
        for heights in IMPOSSIBLE:
            if len(heights) < 4:
                self.assertFalse(fit_heights(Heights([*heights.books, FREE], heights.ties)))

    def test_the_turn_is_the_same_everywhere(self):
        # A turn told at one height and one told at another one.
        for low, high, due in ((Ratio(1, 3), Ratio(1, 2), True), (Ratio(1, 2), Ratio(1, 3), False), (Ratio(1, 3), Ratio(1, 3), False)):
            books = [Book(TurnAbove(low).told), FREE, Book(TurnBelow(high).told)]
            self.assertIs(bool(fit_heights(Heights(books))), due)
        self.assertEqual(fit_heights(Heights([FREE, Book(TurnIs(Ratio(2, 7)).told)])).turn, Ratio(2, 7))

    def test_wrong(self):
        check_wrong(self, fit_heights, ("heights", "heights", TWO))

    def test_short_time(self):
        begin = time.time()
        for heights in full_heights():
            paper = fit_heights(heights)
            right = keeps_tied if paper else denies_tied
            self.assertTrue(right(lines_of(heights), heights.ties, paper))
        self.assertLess(time.time() - begin, 8)


def full_heights():
    """Twenty told ones of eight digits, of all heights together, twelve ties."""
    found = []
    for heights in made_up_heights(31, 400, 8):
        many = sum(len(book) for book in heights.books)
        if 10 <= many <= 20:
            ties = [Tie(at, at + 1, "least") for at in range(len(heights) - 1)] * 4
            found += [heights, Heights(heights.books, ties[:12])]
    return found[:60]


class Words(unittest.TestCase):
    def test_of_sayings(self):
        words = {}
        for at, heights in enumerate(POSSIBLE):
            sayings = SAYINGS[at % 7::29] + OF_TURNS[at % 5::5]
            for number, saying in enumerate(sayings):
                height = (at + number) % len(heights)
                paper = word_heights(heights, height, saying)
                self.assertTrue(is_word_tied(lines_of(heights), heights.ties, height, saying.told, paper), (str(heights), str(saying)))
                self.assertEqual(type(paper), {"always": Always, "nowhere": Nowhere, "both": Both}[paper.word])
                words[paper.word] = words.get(paper.word, 0) + 1
        self.assertGreater(min(words.values()), 100)

    def test_of_sayings_of_each_kind(self):
        for height in (0, 1):
            for saying in SAYINGS:
                paper = word_heights(TWO, height, saying)
                self.assertTrue(is_word_tied(lines_of(TWO), TWO.ties, height, saying.told, paper))
                self.assertEqual(word_heights(heights=TWO, height=height, saying=saying), paper)

    def test_of_the_turn_at_any_height(self):
        for heights in POSSIBLE[::12]:
            for saying in OF_TURNS:
                paper = word_turn(heights, saying)
                self.assertTrue(is_word_tied(lines_of(heights), heights.ties, 0, saying.told, paper))
                for height in range(len(heights)):
                    self.assertEqual(word_heights(heights, height, saying).word, paper.word)

    def test_of_ties(self):
        words = {}
        for heights in POSSIBLE[::3]:
            for one in TIES:
                if max(one.one, one.other) < len(heights):
                    paper = word_tie(heights, one)
                    self.assertTrue(is_word_of_tie(lines_of(heights), heights.ties, one, paper), (str(heights), str(one)))
                    words[paper.word, one.kind] = True
        self.assertEqual(len(words), 9)

    def test_by_hand(self):
        self.assertEqual([word_tie(TWO, tie(text)).word for text in ("0 1 above", "0 1 least", "0 1 zero", "1 0 zero", "1 0 above")], ["always", "always", "nowhere", "nowhere", "nowhere"])
        ring = Heights([EVEN, FREE, FREE], [tie("0 1 least"), tie("1 2 least"), tie("2 0 least")])
        self.assertEqual([word_tie(ring, tie(text)).word for text in ("0 2 zero", "2 1 zero", "1 0 above", "0 1 least")], ["always", "always", "nowhere", "always"])
        # What is told of one height is so of those that are tied to it.
        self.assertEqual([word_heights(ring, height, saying).word for height in range(3) for saying in (Shorter(A, C), Rows(EVEN.told))], ["nowhere", "always"] * 3)
        bounded = Heights.read("least -1 0 1/7 | - | - ; 0 1 above , 2 0 least")
        self.assertEqual([word_heights(bounded, height, Rows([Told.above(Row(-1, 0, Ratio(1, 7)))])).word for height in range(3)], ["both", "always", "both"])
        self.assertEqual([word_heights(bounded, height, Rows([Told.above(Row(-1, 0, 1))])).word for height in range(3)], ["always", "always", "both"])

    def test_more_tells_more(self):
        """What is always or nowhere stays so with a told one or a tie more."""
        for at, heights in enumerate(POSSIBLE[::5]):
            for saying in SAYINGS[at % 3::40]:
                word = word_heights(heights, 0, saying).word
                for other in SAYINGS[at % 11::37]:
                    for told in other.told:
                        more = heights.with_told(len(heights) - 1, told)
                        if word != "both" and fit_heights(more):
                            self.assertEqual(word_heights(more, 0, saying).word, word)

    def test_is_surer(self):
        seen = {True: 0, False: 0}
        for at, heights in enumerate(POSSIBLE[::3]):
            for number, saying in enumerate(OF_TURNS[at % 3::3] + SAYINGS[at % 7::31]):
                height = (at + number) % len(heights)
                due = word_heights(heights, height, saying).word != "both" and word_of(heights.books[height], saying).word == "both"
                self.assertIs(is_surer(heights, height, saying), due)
                if due:
                    # Without the others there is a post with it and one without it.
                    paper = word_of(heights.books[height], saying)
                    self.assertTrue(has_at(saying.told, 0, KeptHeights(paper.kept.turn, [paper.kept.squared])))
                seen[due] += 1
        self.assertGreater(min(seen.values()), 20)

    def test_impossible(self):
        for heights in IMPOSSIBLE:
            paper = fit_heights(heights)
            last = len(heights) - 1
            for call in (
                lambda: word_heights(heights, last, LeansRight(A)), lambda: word_turn(heights, TurnIs(0)), lambda: is_surer(heights, 0, TurnIs(0)),
                lambda: word_tie(heights, Tie(0, 1, "zero")) if last else word_turn(heights, TurnIs(0)),
            ):
                with self.assertRaises(Impossible) as caught:
                    call()
                self.assertTrue(denies_tied(lines_of(heights), heights.ties, caught.exception.paper))
                self.assertEqual(caught.exception.paper, paper)

    def test_wrong(self):
        saying = ("saying", "saying", LeansRight(A))
        heights, height = ("heights", "heights", TWO), ("height", "height of two", 1)
        check_wrong(self, word_heights, heights, height, saying)
        check_wrong(self, is_surer, heights, height, saying)
        check_wrong(self, word_turn, heights, ("saying", "turn saying", TurnIs(0)))
        check_wrong(self, word_tie, heights, ("tie", "tie", Tie(0, 1, "zero")))
        for value in (2, -1, Ratio(1), True):
            check_raises(self, NoHeight(value), word_heights, TWO, value, None)
            check_raises(self, NoHeight(value), is_surer, TWO, value, LeansRight(A))
        for number, one in ((2, Tie(2, 3, "zero")), (3, Tie(3, 2, "zero")), (2, Tie(0, 2, "above")), (3, Tie(3, 1, "least"))):
            check_raises(self, NoHeight(number), word_tie, TWO, one)
        for saying in (LeansRight(A), Rows(TurnIs(0).told), Shorter(A, B)):
            check_raises(self, BadSaying("saying"), word_turn, TWO, saying)
        # Of two faults the first one: impossible heights come last.
        never = Heights([BLUNT])
        check_raises(self, NoHeight(1), word_heights, never, 1, None)
        check_raises(self, BadSaying("saying"), word_heights, never, 0, None)
        check_raises(self, BadSaying("saying"), word_turn, never, LeansRight(A))
        check_raises(self, NoHeight(1), word_tie, never, Tie(0, 1, "zero"))
        check_raises(self, NoHeight(1), word_tie, never, Tie(1, 0, "zero"))
        check_raises(self, BadHeights("heights"), word_turn, None, None)
        for value in ANY[:4]:
            check_raises(self, BadSaying("saying"), is_surer, never, 0, value)

    def test_what_is_put_in_does_not_count(self):
        told = Told.least(Row(0, 1, 0))
        full = Heights([Book([told] * 40), FREE], [tie("0 1 least")] * 12)
        self.assertEqual(word_heights(full, 0, TurnAtLeast(0)).word, "always")
        self.assertEqual(len(word_heights(full, 0, TurnAtLeast(0)).papers[0][0].weights[0]), 41)
        self.assertEqual(len(word_tie(full, tie("0 1 least")).papers[0][0].tie_weights), 13)
        self.assertEqual(word_heights(full, 0, Rows([told] * 40)).word, "always")

    def test_short_time(self):
        begin = time.time()
        for at, heights in enumerate(full_heights()[::3]):
            if fit_heights(heights):
                for saying in (SAYINGS[at % len(SAYINGS)], OF_TURNS[at % len(OF_TURNS)]):
                    paper = word_heights(heights, 0, saying)
                    self.assertTrue(is_word_tied(lines_of(heights), heights.ties, 0, saying.told, paper))
        self.assertLess(time.time() - begin, 8)


if __name__ == "__main__":
    unittest.main()
