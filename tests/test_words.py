"""The words of sayings; papers that are returned add up, told one by told one."""

import random
import time
import unittest

from spiralsays.books import Book
from spiralsays.errors import BadSaying, Impossible, TooMany
from spiralsays.fits import OneStep, fit
from spiralsays.papers import Denial, Paper
from spiralsays.ratios import Ratio
from spiralsays.rows import Row, Told
from spiralsays.sayings import (
    AsLong, Blunt, LeansLeft, LeansRight, Longer, Nearest, NoLonger, Rows, Sharp, Shorter, StraightUp, TurnAbove, TurnIs,
)
from spiralsays.several import together, words_of
from spiralsays.stems import Stem
from spiralsays.steps import Step
from spiralsays.words import Always, Both, Nowhere, word_of
from helpers import check_raises, check_wrong, keeps
from papers_by_hand import is_word
from some_books import BLUNT, BY_HAND, EVEN, FLAT, MADE_UP, made_up
from some_sayings import A, B, C, ROUND, SAYINGS

POSSIBLE = [book for book in [book for book, _ in BY_HAND] + MADE_UP[::9] if fit(book)]
IMPOSSIBLE = [book for book in [book for book, _ in BY_HAND] + MADE_UP[::9] if not fit(book)]
KNOWN = Book(TurnIs(Ratio(3, 8)).told)


def some_pairs():
    chance = random.Random(8)
    pairs = [(book, chance.choice(SAYINGS)) for book in POSSIBLE for _ in range(3)]
    return pairs + [(book, saying) for book in (KNOWN, Book(), EVEN, FLAT) for saying in SAYINGS]


PAIRS = some_pairs()


class Words(unittest.TestCase):
    def test_papers_are_right(self):
        words = {"always": 0, "nowhere": 0, "both": 0}
        for book, saying in PAIRS:
            paper = word_of(book, saying)
            self.assertTrue(is_word(book.told, saying.told, paper), (str(book), str(saying)))
            words[paper.word] += 1
            self.assertIs(bool(paper), paper.word != "nowhere")
        self.assertGreater(min(words.values()), 60)

    def test_parts(self):
        for book, saying in PAIRS[::5]:
            paper = word_of(book, saying)
            self.assertIn(type(paper), (Always, Nowhere, Both))
            if paper.word == "always":
                for line in paper.papers:
                    for one in line:
                        self.assertTrue(all(isinstance(weight, Ratio) for weight in (*one.weights, one.times, one.rest)))
                        self.assertTrue(one.step is None or one.step.divisor == 1)
                        self.assertEqual(len(one.weights), len(book) + 1)
            if paper.word == "nowhere":
                self.assertEqual(len(paper.paper.weights), len(book) + len(saying.told))

    def test_against_stems(self):
        stems = [fit(book).stem for book in POSSIBLE]
        for book, saying in PAIRS[::3]:
            word = word_of(book, saying).word
            for stem in stems:
                if keeps(stem, book):
                    if word == "always":
                        self.assertTrue(keeps(stem, saying.told))
                    if word == "nowhere":
                        self.assertFalse(keeps(stem, saying.told))

    def test_as_more_is_told(self):
        for book, saying in PAIRS[::7]:
            more = book.with_told(Told.least(Row(-1, 2, 3)))
            word = word_of(book, saying).word
            if fit(more) and word != "both":
                self.assertEqual(word_of(more, saying).word, word)

    def test_always_exactly_if_each_told_one_is(self):
        for book, saying in PAIRS[::4]:
            each = [word_of(book, Rows([one])).word == "always" for one in saying.told]
            self.assertIs(word_of(book, saying).word == "always", all(each))

    def test_edges(self):
        free = Book()
        for saying, due in (
            (Shorter(A, A), "nowhere"), (AsLong(A, A), "always"), (AsLong(A, -A), "always"), (Sharp(A, A), "always"), (Sharp(A, -A), "nowhere"),
            (Blunt(A, -A), "always"), (Shorter(ROUND, B), "both"), (AsLong(ROUND, -ROUND), "always"), (NoLonger(ROUND, 1), "always"),
            (NoLonger(ROUND, Ratio(99, 100)), "nowhere"), (Longer(ROUND, 1), "nowhere"), (NoLonger(B, 0), "nowhere"), (Longer(B, 0), "always"),
            (NoLonger(A, 0), "nowhere"), (Shorter(B, C), "both"), (LeansRight(Step(-3, -1)), "both"),
            (Rows([Told.zero(Row(0, 0, 0))]), "always"), (Rows([Told.zero(Row(0, 0, 1))]), "nowhere"), (Rows([Told.above(Row(0, 0, 0))]), "nowhere"),
            (Rows([Told.above(Row(1, 0, 0))]), "always"), (Rows([Told.least(Row(1, -2, 1))]), "always"), (Rows([Told.zero(Row(1, -2, 1))]), "nowhere"),
        ):
            paper = word_of(free, saying)
            self.assertEqual(paper.word, due, str(saying))
            self.assertTrue(is_word((), saying.told, paper))
        for saying, due in (
            (StraightUp(Step(8, 3)), "always"), (LeansLeft(Step(-5, -2)), "always"), (TurnIs(Ratio(3, 8)), "always"), (TurnIs(Ratio(2, 5)), "nowhere"),
            (Longer(Step(8, 3), 0), "always"), (Longer(Step(8, 3), Ratio(1, 10 ** 9)), "both"),
        ):
            self.assertEqual(word_of(KNOWN, saying).word, due, str(saying))

    def test_each_is_both_and_all_together_are_nowhere(self):
        sayings = [Blunt(A, B), Blunt(A, C)]
        self.assertEqual([paper.word for paper in words_of(Book(), sayings)], ["both", "both"])
        paper = word_of(Book(), together(sayings))
        self.assertEqual(paper.word, "nowhere")
        self.assertTrue(is_word((), together(sayings).told, paper))

    def test_zero_rows_have_two_contraries(self):
        paper = word_of(KNOWN, Rows(KNOWN.told + (Told.zero(Row(0, 8, -3)), Told.least(Row(1, 0, 0)))))
        self.assertEqual([len(line) for line in paper.papers], [2, 2, 1])

    def test_full_books(self):
        # 40 told ones, and what is put in behind them does not count.
        book = Book(list(KNOWN.told) * 40)
        always, nowhere, both = words_of(book, [LeansRight(A), LeansLeft(A), Shorter(A, C)])
        self.assertEqual([always.word, nowhere.word, both.word], ["always", "nowhere", "both"])
        self.assertEqual([len(always.papers[0][0].weights), len(nowhere.paper.weights)], [41, 41])
        rows = Rows([Told.least(Row(0, 1, -1))] * 40)
        paper = word_of(book, rows)
        self.assertEqual(len(paper.paper.weights), 80)
        self.assertTrue(is_word(book.told, rows.told, paper))

    def test_impossible(self):
        for book in IMPOSSIBLE + [BLUNT]:
            for saying in (LeansRight(A), Rows([Told.zero(Row(0, 0, 0))])):
                check_raises(self, Impossible(fit(book)), word_of, book, saying)
                check_raises(self, Impossible(fit(book)), words_of, book, [saying] * 61)

    def test_wrong(self):
        check_wrong(self, word_of, ("book", "book", EVEN), ("saying", "saying", LeansRight(A)))
        check_wrong(self, word_of, ("book", "book", BLUNT), ("saying", "saying", LeansRight(A)))
        check_wrong(self, words_of, ("book", "book", BLUNT), ("sayings", "sayings", []))
        check_wrong(self, together, ("sayings", "sayings", [LeansRight(A)]))

    def test_again(self):
        for book, saying in PAIRS[::11]:
            self.assertEqual(word_of(book, saying), word_of(Book(list(book.told)), saying))

    def test_classes(self):
        stem = Stem(0, 1)
        for paper, word, parts, base in (
            (Always([[1], [None]]), "always", (((1,), (None,)),), Paper), (Always(papers=3), "always", (3,), Paper),
            (Nowhere([2]), "nowhere", ((2,),), Denial), (Nowhere(paper=None), "nowhere", (None,), Denial),
            (Both(stem, broken="x"), "both", (stem, "x"), Paper),
        ):
            self.assertEqual((paper.word, paper.parts), (word, parts))
            self.assertEqual(type(paper).__bases__, (base,))
            self.assertIs(bool(paper), base is Paper)
        self.assertEqual((Always(1).papers, Nowhere(2).paper, Both(3, 4).kept, Both(3, 4).broken), (1, 2, 3, 4))

    def test_short_time(self):
        begin = time.time()
        for book in made_up(15, 6, 8):
            full = Book((list(book.told) * 20)[:20])
            if fit(full):
                words_of(full, SAYINGS[:20])
        self.assertLess(time.time() - begin, 20)


class Several(unittest.TestCase):
    def test_words_of(self):
        for book in (KNOWN, EVEN):
            papers = words_of(book, SAYINGS[:60])
            self.assertIs(type(papers), tuple)
            self.assertEqual(list(papers), [word_of(book, saying) for saying in SAYINGS[:60]])
        self.assertEqual(words_of(KNOWN, ()), ())
        self.assertEqual(words_of(KNOWN, []), ())

    def test_sixty(self):
        self.assertEqual(len(words_of(KNOWN, [LeansRight(A)] * 60)), 60)
        check_raises(self, TooMany("sayings", 60), words_of, KNOWN, [LeansRight(A)] * 61)

    def test_together(self):
        found = together([Nearest(C, A), TurnAbove(1)])
        self.assertEqual(found, Rows(Nearest(C, A).told + TurnAbove(1).told))
        self.assertIs(type(found), Rows)
        check_raises(self, BadSaying("sayings"), together, [])
        check_raises(self, BadSaying("sayings"), together, ())
        self.assertEqual(len(together([Nearest(C, A)] * 13 + [TurnAbove(1)]).told), 40)
        check_raises(self, TooMany("told", 40), together, [Nearest(C, A)] * 13 + [TurnAbove(1)] * 2)
        self.assertEqual(together([together([LeansRight(B)])]).told, LeansRight(B).told)

    def test_one_step_of_a_word_is_one(self):
        self.assertIs(type(word_of(KNOWN, LeansLeft(A)).paper), OneStep)


if __name__ == "__main__":
    unittest.main()
