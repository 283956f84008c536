"""Count books and the words over them; papers reckoned without the program, case by case."""

import random
import time
import unittest

from spiralsays.books import Book
from spiralsays.counted import NearerStud, OneWay, RightLeft, SeenBoth
from spiralsays.cuts import cuts, stretches
from spiralsays.errors import BadCounted, Impossible, TooMany
from spiralsays.fits import OneStep
from spiralsays.papers import Denial, Paper
from spiralsays.ratios import Ratio
from spiralsays.rows import Row, Told
from spiralsays.sayings import (
    LeansLeft, LeansRight, Nearest, Rows, Saying, Shorter, TurnAbove, TurnAtLeast, TurnAtMost, TurnBelow, TurnIs,
)
from spiralsays.stems import Stem
from spiralsays.told_counts import CountBook, KeptCounts, NoStretch, fit_counts, word_counts
from spiralsays.windows import Window
from spiralsays.words import Always, Both, Nowhere
from counted_by_hand import THINGS, WINDOWS, holds, some_stems
from helpers import ANY, check_raises, check_wrong, fraction, keeps
from papers_by_hand import contraries, denies
from some_books import BLUNT, EVEN, FLAT
from some_sayings import A, C

UNIT = Window(0, 1)
LEVEL = Book([Told.zero(Row(5, -2, 0))])
SEEN = CountBook(LEVEL, UNIT, [RightLeft(8, 5)])
HALF = CountBook(Book(TurnIs(Ratio(1, 2)).told), UNIT, [RightLeft(8, 5)])
BOOKS = [Book(), LEVEL, EVEN, FLAT, BLUNT, Book(TurnIs(Ratio(3, 8)).told), Book.read("least -1 0 1/7"), Book.read("zero 1 0 -1/7 , zero 0 1 -5/14")]
SAYINGS = [LeansRight(A), LeansLeft(C), Shorter(A, C), TurnAbove(Ratio(1, 3)), TurnAtMost(Ratio(2, 5)), TurnIs(Ratio(1, 2)), Nearest(A, C), TurnBelow(-5), TurnIs(Ratio(5, 13))]


def some_count_books():
    chance = random.Random(12)
    found = [SEEN, HALF, CountBook(Book(), Window(Ratio(1, 3), Ratio(1, 2)), [OneWay(2, "left")])]
    for _ in range(60):
        few = chance.choice([THINGS, THINGS[:4] + THINGS[11:14] + THINGS[20:28]])
        things = [chance.choice(few) for _ in range(chance.choice([1, 1, 2, 3]))]
        window = chance.choice(WINDOWS)
        if len(cuts(things, window)) <= 30:
            found.append(CountBook(chance.choice(BOOKS), window, things))
    # Full ones: kept by a stem that was taken ahead.
    for stem in (Stem(Ratio(5, 13), Ratio(2, 13)), Stem(Ratio(3, 8), Ratio(37, 256)), Stem(Ratio(7, 18), Ratio(7, 45))):
        for many in (2, 3, 4, 6):
            things = [thing for thing in THINGS if thing.holds(stem)]
            chosen = [chance.choice(things) for _ in range(many)]
            if len(cuts(chosen, Window(Ratio(1, 3), Ratio(1, 2)))) <= 40:
                found.append(CountBook(Book(), Window(Ratio(1, 3), Ratio(1, 2)), chosen))
    return found


COUNT_BOOKS = some_count_books()


def keeps_counts(stem, count_book):
    """Whether a stem keeps a count book, reckoned without the program."""
    window = count_book.window
    inside = fraction(window.low) <= fraction(stem.turn) <= fraction(window.high)
    return inside and keeps(stem, count_book.book) and all(holds(thing, stem) for thing in count_book.things)


def is_so(asked, stem):
    return keeps(stem, asked.told) if isinstance(asked, Saying) else holds(asked, stem)


def cases_of(count_book, asked=None):
    """For each case its told ones, the book's ahead, and the piece of a thing that is asked, None without one.

    The pieces are those of each thing alone, as stretches tells them; test_counted looks at these.
    """
    others = [] if asked is None else [asked]
    places = (count_book.window.low, *cuts([*count_book.things, *others], count_book.window), count_book.window.high)
    found = []
    for low, high in zip(places, places[1:]):
        pieces = [stretches([thing], Window(low, high))[0].pieces for thing in [*count_book.things, *others]]
        asked_pieces = pieces.pop() if others else ()
        if all(pieces):
            told = [told for one in pieces for told in one[0]]
            case = [*count_book.book, *told, *TurnAtLeast(low).told, *TurnAtMost(high).told]
            found.append((case, asked_pieces[0] if asked_pieces else None))
    return found


def is_counts(count_book, paper):
    if paper.word == "keptcounts":
        return isinstance(paper.stem, Stem) and keeps_counts(paper.stem, count_book)
    cases = cases_of(count_book)
    if not isinstance(paper.papers, tuple) or len(paper.papers) != len(cases):
        return False
    return all(denies(told, one) for (told, _), one in zip(cases, paper.papers))


def line_denies(told, put_in, line):
    if not isinstance(line, tuple) or len(line) != len(put_in):
        return False
    return all(denies([*told, *more], one) for more, one in zip(put_in, line))


def is_word_counts(count_book, asked, paper):
    """Whether an Always, a Nowhere or a Both is right; parts of any kind."""
    if paper.word == "both":
        stems = (paper.kept, paper.broken)
        if not all(isinstance(stem, Stem) and keeps_counts(stem, count_book) for stem in stems):
            return False
        return is_so(asked, paper.kept) and not is_so(asked, paper.broken)
    thing = not isinstance(asked, Saying)
    cases = cases_of(count_book, asked if thing else None)
    entries = paper.papers if paper.word == "always" else paper.paper
    if not isinstance(entries, tuple) or len(entries) != len(cases):
        return False
    for (told, piece), entry in zip(cases, entries):
        if thing:
            if paper.word == "always":
                put_in = [[]] if piece is None else [[one] for part in piece for one in contraries(part)]
            else:
                put_in = [] if piece is None else [piece]
            right = line_denies(told, put_in, entry)
        elif paper.word == "always":
            right = isinstance(entry, tuple) and len(entry) == len(asked.told)
            right = right and all(line_denies(told, [[one] for one in contraries(part)], line) for part, line in zip(asked.told, entry))
        else:
            right = denies([*told, *asked.told], entry)
        if not right:
            return False
    return True


def some_asked():
    chance = random.Random(13)
    found = []
    for count_book in COUNT_BOOKS:
        for asked in chance.sample(SAYINGS, 3) + chance.sample(THINGS, 4):
            if isinstance(asked, Saying) or len(cuts([*count_book.things, asked], count_book.window)) <= 60:
                found.append((count_book, asked))
    found += [(SEEN, asked) for asked in SAYINGS + [OneWay(8, "right"), OneWay(13, "right"), RightLeft(5, 8), RightLeft(8, 5), SeenBoth(8, 5), OneWay(1, "left")]]
    return found


ASKED = some_asked()


class CountBooks(unittest.TestCase):
    def test_values(self):
        stems = some_stems([0, fraction(Ratio(5, 13)), fraction(Ratio(3, 8)), fraction(Ratio(1, 2)), 1, 2])
        for count_book in COUNT_BOOKS:
            self.assertIs(type(count_book.things), tuple)
            for stem in stems:
                self.assertIs(stem in count_book, keeps_counts(stem, count_book))
            for value in ANY:
                if not isinstance(value, Stem):
                    self.assertIs(value in count_book, False)
        self.assertTrue(SEEN == CountBook(book=LEVEL, window=UNIT, things=(RightLeft(8, 5),)))
        for other in (CountBook(Book(), UNIT, [RightLeft(8, 5)]), CountBook(LEVEL, Window(0, Ratio(1, 2)), [RightLeft(8, 5)]), CountBook(LEVEL, UNIT, [RightLeft(8, 5)] * 2), None, LEVEL):
            self.assertFalse(SEEN == other)
        self.assertEqual((SEEN.book, SEEN.window, SEEN.things), (LEVEL, UNIT, (RightLeft(8, 5),)))

    def test_wrong(self):
        check_wrong(self, CountBook, ("book", "book", LEVEL), ("window", "window", UNIT), ("things", "some things", [RightLeft(8, 5)]))
        self.assertEqual(len(CountBook(LEVEL, UNIT, [OneWay(1, "left")] * 6).things), 6)
        check_raises(self, TooMany("things", 6), CountBook, LEVEL, UNIT, [OneWay(1, "left")] * 7)
        check_raises(self, BadCounted("things"), CountBook, LEVEL, UNIT, [OneWay(1, "left")] * 7 + [None])


class FitCounts(unittest.TestCase):
    def test_papers_are_right(self):
        kept = 0
        for count_book in COUNT_BOOKS:
            paper = fit_counts(count_book)
            self.assertIn(type(paper), (KeptCounts, NoStretch))
            self.assertTrue(is_counts(count_book, paper))
            kept += bool(paper)
        self.assertGreater(kept, 15)
        self.assertLess(kept, len(COUNT_BOOKS) - 10)

    def test_against_stems(self):
        # Where no case is possible none of many stems keeps the count book.
        for count_book in COUNT_BOOKS:
            if not fit_counts(count_book):
                low, high = fraction(count_book.window.low), fraction(count_book.window.high)
                for stem in some_stems([low + (high - low) * k / 24 for k in range(25)]):
                    self.assertFalse(keeps_counts(stem, count_book))

    def test_no_cases(self):
        # No stretch has a piece: there is nothing to deny.
        none = CountBook(Book(), Window(Ratio(1, 3), Ratio(3, 8)), [RightLeft(8, 5)])
        self.assertEqual(fit_counts(none), NoStretch([]))
        self.assertEqual(fit_counts(none).papers, ())
        check_raises(self, Impossible(NoStretch(())), word_counts, none, LeansRight(A))

    def test_at_a_tie_alone(self):
        # 1/2 is the tie of 0 and 1; no stretch beside it lets the thing hold.
        for side, low, high in (("right", Ratio(1, 2), 1), ("left", 0, Ratio(1, 2))):
            alone = CountBook(Book(), Window(low, high), [OneWay(1, side)])
            self.assertEqual(fit_counts(alone).stem.turn, Ratio(1, 2))
            self.assertEqual(word_counts(alone, TurnIs(Ratio(1, 2))).word, "always")

    def test_wrong(self):
        check_wrong(self, fit_counts, ("count_book", "count book", SEEN))

    def test_many_cuts(self):
        wide = CountBook(LEVEL, UNIT, [OneWay(21, "right"), OneWay(20, "right"), OneWay(19, "right")])
        check_raises(self, TooMany("cuts", 100), fit_counts, wide)
        check_raises(self, TooMany("cuts", 100), word_counts, wide, LeansRight(A))
        check_raises(self, TooMany("cuts", 100), word_counts, CountBook(BLUNT, UNIT, wide.things), OneWay(1, "left"))
        # Those of what is asked count, too, ahead of Impossible; those of a saying are none.
        some = CountBook(BLUNT, UNIT, [OneWay(21, "right"), OneWay(20, "right")])
        check_raises(self, TooMany("cuts", 100), word_counts, some, OneWay(19, "left"))
        with self.assertRaises(Impossible):
            word_counts(some, LeansRight(A))
        with self.assertRaises(Impossible):
            word_counts(some, OneWay(7, "right"))

    def test_full_books(self):
        book = Book([Told.least(Row(1, 0, 0))] * 40)
        seen = Stem(Ratio(7, 18), Ratio(7, 45))
        full = CountBook(book, UNIT, [thing for thing in THINGS if thing.holds(seen)][-6:])
        self.assertEqual(len(full.things), 6)
        paper = fit_counts(full)
        self.assertTrue(paper and is_counts(full, paper))
        for asked in (LeansRight(A), SeenBoth(3, 5), OneWay(13, "left")):
            self.assertTrue(is_word_counts(full, asked, word_counts(full, asked)))
        denied = CountBook(Book(list(BLUNT.told) * 20), UNIT, [SeenBoth(3, 2)])
        self.assertTrue(is_counts(denied, fit_counts(denied)))
        self.assertEqual(len(fit_counts(denied).papers[0].weights), 40 + 6 + 2)

    def test_again(self):
        for count_book in COUNT_BOOKS[::4]:
            again = CountBook(Book(list(count_book.book.told)), count_book.window, list(count_book.things))
            self.assertEqual(fit_counts(count_book), fit_counts(again))

    def test_classes(self):
        for paper, word, parts, base in (
            (KeptCounts([1]), "keptcounts", ((1,),), Paper), (KeptCounts(stem=2), "keptcounts", (2,), Paper), (NoStretch(papers=[3]), "nostretch", ((3,),), Denial),
        ):
            self.assertEqual((paper.word, paper.parts, type(paper).__bases__), (word, parts, (base,)))
        self.assertEqual((KeptCounts(1).stem, NoStretch(2).papers), (1, 2))


class WordCounts(unittest.TestCase):
    def test_papers_are_right(self):
        words = {}
        for count_book, asked in ASKED:
            found = fit_counts(count_book)
            if not found:
                check_raises(self, Impossible(found), word_counts, count_book, asked)
                continue
            paper = word_counts(count_book, asked)
            self.assertIn(type(paper), (Always, Nowhere, Both))
            self.assertTrue(is_word_counts(count_book, asked, paper), (str(count_book.book), list(map(str, count_book.things)), str(asked)))
            key = (isinstance(asked, Saying), paper.word)
            words[key] = words.get(key, 0) + 1
        self.assertEqual(len(words), 6)
        self.assertGreater(min(words.values()), 5)

    def test_against_stems(self):
        for count_book, asked in ASKED[::2]:
            if not fit_counts(count_book):
                continue
            word = word_counts(count_book, asked).word
            low, high = fraction(count_book.window.low), fraction(count_book.window.high)
            for stem in some_stems([low + (high - low) * k / 12 for k in range(13)]):
                if word != "both" and keeps_counts(stem, count_book):
                    self.assertIs(is_so(asked, stem), word == "always")

    def test_what_is_told_is_always(self):
        for count_book in COUNT_BOOKS:
            if fit_counts(count_book):
                for thing in count_book.things:
                    self.assertEqual(word_counts(count_book, thing).word, "always")
                self.assertEqual(word_counts(count_book, Rows(count_book.window.told)).word, "always")

    def test_entries(self):
        # A thing that has no piece anywhere is nowhere: an empty entry for each case.
        paper = word_counts(SEEN, RightLeft(5, 8))
        self.assertEqual(paper, Nowhere([()]))
        # Asked things part the cases: 2/5 to 3/8 has the cuts 3/8 + 1/80 and others of (8, right).
        self.assertEqual(len(word_counts(SEEN, OneWay(8, "right")).papers), 1 + len(cuts([OneWay(8, "right")], Window(Ratio(3, 8), Ratio(2, 5)))))
        paper = word_counts(SEEN, TurnBelow(Ratio(2, 5)))
        self.assertEqual([len(paper.papers), len(paper.papers[0]), len(paper.papers[0][0])], [1, 1, 1])
        paper = word_counts(SEEN, Rows(LEVEL.told + TurnAbove(Ratio(3, 8)).told))
        self.assertEqual([[len(line) for line in entry] for entry in paper.papers], [[2, 1]])
        self.assertIs(type(word_counts(SEEN, TurnBelow(0)).paper[0]), OneStep)
        # Without a piece one contrary without told ones: such a case is impossible by itself.
        half = CountBook(Book(TurnAtMost(Ratio(1, 3)).told), UNIT, [OneWay(1, "right")])
        paper = word_counts(half, OneWay(1, "right"))
        self.assertEqual([len(entry) for entry in paper.papers], [1, 2])
        paper = word_counts(half, RightLeft(1, 2))
        self.assertTrue(paper.word in ("both", "always") and is_word_counts(half, RightLeft(1, 2), paper))

    def test_wrong(self):
        check_wrong(self, word_counts, ("count_book", "count book", SEEN), ("saying", "saying or thing", LeansRight(A)))
        check_wrong(self, word_counts, ("count_book", "count book", HALF), ("saying", "saying or thing", RightLeft(3, 2)))

    def test_more_told(self):
        for count_book, asked in ASKED[::5]:
            if not fit_counts(count_book):
                continue
            word = word_counts(count_book, asked).word
            more = CountBook(count_book.book.with_told(Told.least(Row(1, -1, Ratio(1, 10)))), count_book.window, count_book.things)
            if word != "both" and fit_counts(more):
                self.assertEqual(word_counts(more, asked).word, word)

    def test_again(self):
        for count_book, asked in ASKED[::9]:
            if fit_counts(count_book):
                self.assertEqual(word_counts(count_book, asked), word_counts(count_book, asked))

    def test_short_time(self):
        begin = time.time()
        told = (list(LEVEL.told) + list(Book.read("least 1 0 -1/1000 , least -12345678 1 99999999 , above 0 87654321 -1").told)) * 5
        things = [SeenBoth(3, 2), OneWay(8, "right"), OneWay(5, "left"), NearerStud(8, 5), OneWay(21, "left")]
        wide = CountBook(Book(told), UNIT, things)
        fit_counts(wide)
        if fit_counts(wide):
            for asked in (LeansRight(A), SeenBoth(3, 5), Nearest(A, C)):
                word_counts(wide, asked)
        self.assertLess(time.time() - begin, 20)


if __name__ == "__main__":
    unittest.main()
