"""Count heights and the words over them; papers reckoned without the program, case by case."""

import random
import time
import unittest

from spiralsays.books import Book
from spiralsays.counted import NearerStud, OneWay, RightLeft, SeenBoth
from spiralsays.cuts import cuts, stretches
from spiralsays.errors import BadCounted, BadSaying, Impossible, NoHeight, TooMany, Unlike
from spiralsays.heights import Heights, Tie
from spiralsays.ratios import Ratio
from spiralsays.rows import Row, Told
from spiralsays.sayings import LeansRight, Rows, Saying, Shorter, TurnAbove, TurnAtLeast, TurnAtMost, TurnBelow, TurnIs
from spiralsays.stems import Stem
from spiralsays.tied_counts import CountHeights, fit_count_heights, word_count_heights
from spiralsays.tied_fits import KeptHeights
from spiralsays.told_counts import CountBook, NoStretch, fit_counts, word_counts
from spiralsays.windows import Window
from spiralsays.words import Always, Both, Nowhere
from counted_by_hand import THINGS, WINDOWS, holds
from heights_by_hand import (
    FREE, TWO, denies_tied, has_at, keeps_tied, line_denies_tied, lines_of, made_up_heights, so, some_ties, with_more,
)
from helpers import ANY, check_raises, check_wrong, fraction, is_list_of
from papers_by_hand import contraries
from some_books import BLUNT
from some_sayings import A, B, C, SAYINGS

UNIT = Window(0, 1)
SEEN = CountHeights(TWO, UNIT, [[SeenBoth(3, 2)], [OneWay(8, "right")]])
LEVEL = Book([Told.zero(Row(5, -2, 0))])


def some_count_heights():
    chance = random.Random(4)
    found = [SEEN]
    few = THINGS[:4] + THINGS[11:14] + THINGS[20:28]
    for heights in made_up_heights(5, 60):
        things = [[chance.choice(few) for _ in range(chance.choice([0, 0, 1, 1, 2]))] for _ in heights.books]
        window = chance.choice(WINDOWS)
        flat = [thing for line in things for thing in line]
        if 1 <= len(flat) <= 6 and len(cuts(flat, window)) <= 30:
            found.append(CountHeights(heights, window, things))
    # Things that hold at one turn and squares taken ahead, with ties and told ones that do, too.
    for turn in (Ratio(5, 13), Ratio(3, 8), Ratio(7, 18), Ratio(1, 2), Ratio(2, 3)):
        for many in (1, 2, 3, 4):
            levels = [turn * turn + Ratio(1, chance.randint(3, 60)) for _ in range(many)]
            things = [[chance.choice([one for one in THINGS if holds(one, Stem(turn, level))]) for _ in range(chance.choice([0, 1, 1]))] for level in levels]
            things[0] = things[0] or [OneWay(1, "left")] * (turn.compared(Ratio(1, 2)) >= 0) + [RightLeft(1, 1)]
            ties = [one for one in some_ties(chance, many, 4) if so(one.kind, fraction(levels[one.one]) - fraction(levels[one.other]))]
            window = Window(turn - Ratio(1, 9), turn + Ratio(1, 11))
            if len(cuts([thing for line in things for thing in line], window)) <= 25:
                found.append(CountHeights(Heights([FREE] * many, ties), window, things))
                books = [Book([Told.least(Row(-1, 0, level))]) for level in levels]
                found.append(CountHeights(Heights(books, ties), window, things))
    return found


COUNTED = some_count_heights()


def cases_by_hand(count_heights, asked=None):
    """For each case its lines of told ones, and the piece of a thing that is asked, None without one."""
    things = [list(line) for line in count_heights.things]
    window = count_heights.window
    others = [] if asked is None else [asked]
    places = (window.low, *cuts([thing for line in things for thing in line] + others, window), window.high)
    found = []
    for low, high in zip(places, places[1:]):
        def pieces_of(thing):
            return stretches([thing], Window(low, high))[0].pieces
        lines, whole = lines_of(count_heights.heights), True
        for height, line in enumerate(things):
            for thing in line:
                pieces = pieces_of(thing)
                whole = whole and len(pieces) == 1
                lines[height] += pieces[0] if pieces else ()
        if whole:
            lines[0] += [*TurnAtLeast(low).told, *TurnAtMost(high).told]
            pieces = pieces_of(asked) if others else ()
            found.append((lines, pieces[0] if pieces else None))
    return found


def keeps_counted(count_heights, value):
    """Whether any value is a KeptHeights that keeps all, by trying all rounds for each thing."""
    heights = count_heights.heights
    if not keeps_tied(lines_of(heights), heights.ties, value):
        return False
    if not fraction(count_heights.window.low) <= fraction(value.turn) <= fraction(count_heights.window.high):
        return False
    return all(holds(thing, Stem(value.turn, one)) for one, line in zip(value.squares, count_heights.things) for thing in line)


def is_counted(count_heights, paper):
    if paper.word == "keptheights":
        return keeps_counted(count_heights, paper)
    cases = cases_by_hand(count_heights)
    if not isinstance(paper.papers, tuple) or len(paper.papers) != len(cases):
        return False
    return all(denies_tied(lines, count_heights.heights.ties, one) for (lines, _), one in zip(cases, paper.papers))


def is_so(asked, height, value):
    return has_at(asked.told, height, value) if isinstance(asked, Saying) else holds(asked, Stem(value.turn, value.squares[height]))


def is_word_counted(count_heights, height, asked, paper):
    """Whether an Always, a Nowhere or a Both is right; parts of any kind."""
    ties = count_heights.heights.ties
    if paper.word == "both":
        if not keeps_counted(count_heights, paper.kept) or not keeps_counted(count_heights, paper.broken):
            return False
        return is_so(asked, height, paper.kept) and not is_so(asked, height, paper.broken)
    thing = not isinstance(asked, Saying)
    cases = cases_by_hand(count_heights, asked if thing else None)
    entries = paper.papers if paper.word == "always" else paper.paper
    if not isinstance(entries, tuple) or len(entries) != len(cases):
        return False
    for (lines, piece), entry in zip(cases, entries):
        stacks = lambda put_in: [(with_more(lines, height, more), ties) for more in put_in]
        if thing:
            if paper.word == "always":
                put_in = [[]] if piece is None else [[one] for part in piece for one in contraries(part)]
            else:
                put_in = [] if piece is None else [piece]
            right = line_denies_tied(stacks(put_in), entry)
        elif paper.word == "always":
            right = isinstance(entry, tuple) and len(entry) == len(asked.told)
            right = right and all(line_denies_tied(stacks([[one] for one in contraries(part)]), line) for part, line in zip(asked.told, entry))
        else:
            right = denies_tied(with_more(lines, height, asked.told), ties, entry)
        if not right:
            return False
    return True


def some_asked():
    chance = random.Random(8)
    found = []
    for at, count_heights in enumerate(COUNTED):
        flat = [thing for line in count_heights.things for thing in line]
        own = [(height, thing) for height, line in enumerate(count_heights.things) for thing in line]
        asked = own[:2] + [(chance.randrange(len(count_heights.heights)), one) for one in chance.sample(SAYINGS, 3) + chance.sample(THINGS, 4)]
        asked += [(chance.randrange(len(count_heights.heights)), Rows(count_heights.window.told)), (0, TurnBelow(-9))]
        for height, one in asked:
            if isinstance(one, Saying) or len(cuts([*flat, one], count_heights.window)) <= 45:
                found.append((count_heights, height, one))
    return found


ASKED = some_asked()
POSSIBLE = [count_heights for count_heights in COUNTED if fit_count_heights(count_heights)]


class Values(unittest.TestCase):
    def test_values(self):
        line, things = [SeenBoth(3, 2)], []
        things += [line, ()]
        found = CountHeights(TWO, UNIT, things)
        line.clear()
        things.clear()
        self.assertEqual((found.heights, found.window, found.things), (TWO, UNIT, ((SeenBoth(3, 2),), ())))
        self.assertTrue(found == CountHeights(heights=TWO, window=UNIT, things=([SeenBoth(3, 2)], [])))
        for other in (
            CountHeights(TWO, Window(0, Ratio(1, 2)), found.things), CountHeights(Heights([FREE] * 2), UNIT, found.things),
            CountHeights(TWO, UNIT, [[], [SeenBoth(3, 2)]]), CountHeights(TWO, UNIT, [[SeenBoth(3, 2)] * 2, []]), None, TWO, found.things,
        ):
            self.assertIs(found == other, False)

    def test_wrong(self):
        lists = lambda value: isinstance(value, (list, tuple)) and all(is_list_of((OneWay, RightLeft, SeenBoth, NearerStud))(line) for line in value) and any(map(len, value))
        check_wrong(self, CountHeights, ("heights", "heights", TWO), ("window", "window", UNIT), ("things", (lists, BadCounted), [[OneWay(1, "left")], []]))
        one = OneWay(1, "left")
        for things in ([], [[]], [[], []], [[], [], []], [one], [[one], None], [[one], one], [[one], [None]], [[one, 1], []], "ab", [[one], [[one]]]):
            check_raises(self, BadCounted("things"), CountHeights, TWO, UNIT, things)
        for things in ([[one]], [[one], [], []], [[one] * 7], [[], [], [one]]):
            check_raises(self, Unlike("things"), CountHeights, TWO, UNIT, things)
        self.assertEqual(CountHeights(TWO, UNIT, [[one] * 2, [one] * 4]).things, ((one,) * 2, (one,) * 4))
        for things in ([[one] * 7, []], [[one] * 3, [one] * 4]):
            check_raises(self, TooMany("things", 6), CountHeights, TWO, UNIT, things)


class Fits(unittest.TestCase):
    def test_papers_are_right(self):
        seen = {}
        for count_heights in COUNTED:
            paper = fit_count_heights(count_heights)
            self.assertIn(type(paper), (KeptHeights, NoStretch))
            self.assertTrue(is_counted(count_heights, paper), str(count_heights.heights))
            self.assertEqual(fit_count_heights(count_heights=count_heights), paper)
            seen[paper.word] = seen.get(paper.word, 0) + 1
        self.assertEqual(len(seen), 2)
        self.assertGreater(min(seen.values()), 8)

    def test_one_height_is_a_count_book(self):
        for window in (UNIT, Window(Ratio(3, 8), Ratio(2, 5)), Window(Ratio(1, 2), Ratio(3, 2))):
            for things in ([RightLeft(8, 5)], [SeenBoth(3, 2), OneWay(8, "right")], [OneWay(2, "left"), NearerStud(3, 2)]):
                one, other = CountBook(LEVEL, window, things), CountHeights(Heights([LEVEL]), window, [things])
                self.assertIs(bool(fit_count_heights(other)), bool(fit_counts(one)))
                if fit_counts(one):
                    for asked in SAYINGS[::17] + THINGS[::7]:
                        self.assertEqual(word_count_heights(other, 0, asked).word, word_counts(one, asked).word)

    def test_lists_that_are_empty(self):
        # What is seen at one height tells the turn of the others.
        seen = CountHeights(Heights([FREE] * 3), UNIT, [[], [RightLeft(8, 5)], []])
        for height in range(3):
            for asked, word in ((TurnAbove(Ratio(3, 8)), "always"), (TurnBelow(Ratio(2, 5)), "always"), (RightLeft(8, 5), "always"), (OneWay(5, "right"), "nowhere"), (OneWay(13, "right"), "both"), (SeenBoth(8, 5), "both")):
                self.assertEqual(word_count_heights(seen, height, asked).word, word)

    def test_at_a_tie_alone(self):
        for side, low, high in (("right", Ratio(1, 2), 1), ("left", 0, Ratio(1, 2))):
            alone = CountHeights(Heights([FREE, FREE]), Window(low, high), [[], [OneWay(1, side)]])
            self.assertEqual(fit_count_heights(alone).turn, Ratio(1, 2))
            self.assertEqual(word_count_heights(alone, 0, TurnIs(Ratio(1, 2))).word, "always")

    def test_no_cases(self):
        none = CountHeights(Heights([FREE] * 2), Window(Ratio(1, 3), Ratio(3, 8)), [[], [RightLeft(8, 5)]])
        self.assertEqual(fit_count_heights(none), NoStretch([]))
        check_raises(self, Impossible(NoStretch(())), word_count_heights, none, 0, LeansRight(A))
        check_raises(self, Impossible(NoStretch(())), word_count_heights, none, 1, RightLeft(8, 5))

    def test_what_is_put_in(self):
        # The stretch's turns stand at height 0, behind its own things; what is asked stands last at its height.
        wide = CountHeights(Heights([Book(TurnIs(5).told), FREE]), UNIT, [[RightLeft(8, 5)], [RightLeft(3, 2), OneWay(2, "left")]])
        paper = fit_count_heights(wide)
        self.assertEqual([[len(line) for line in one.weights] for one in paper.papers], [[5, 3]] * len(paper.papers))
        self.assertGreater(len(paper.papers), 0)
        seen = CountHeights(Heights([FREE, FREE]), UNIT, [[RightLeft(8, 5)], []])
        self.assertEqual([len(line) for line in word_count_heights(seen, 1, TurnBelow(Ratio(2, 5))).papers[0][0][0].weights], [4, 1])
        self.assertEqual([len(line) for line in word_count_heights(seen, 0, TurnBelow(Ratio(2, 5))).papers[0][0][0].weights], [5, 0])

    def test_many_cuts(self):
        things = [[OneWay(21, "right"), OneWay(20, "right")], [OneWay(19, "left")]]
        for high, many in ((Ratio(43, 50), 100), (Ratio(87, 100), 101)):
            window = Window(0, high)
            self.assertEqual(len(cuts([*things[0], *things[1]], window)), many)
            wide = CountHeights(Heights([FREE, BLUNT]), window, things)
            if many == 100:
                self.assertTrue(is_counted(wide, fit_count_heights(wide)))
                with self.assertRaises(Impossible):
                    word_count_heights(wide, 1, LeansRight(A))
                # Those of what is asked count, too, ahead of Impossible.
                check_raises(self, TooMany("cuts", 100), word_count_heights, wide, 1, OneWay(17, "left"))
            else:
                check_raises(self, TooMany("cuts", 100), fit_count_heights, wide)
                check_raises(self, TooMany("cuts", 100), word_count_heights, wide, 1, LeansRight(A))
                check_raises(self, BadSaying("saying"), word_count_heights, wide, 1, None)

    def test_wrong(self):
        check_wrong(self, fit_count_heights, ("count_heights", "count heights", SEEN))
        check_wrong(
            self, word_count_heights, ("count_heights", "count heights", SEEN), ("height", "height of two", 1), ("saying", "saying or thing", LeansRight(A)),
        )
        for value in (2, -1, True, Ratio(0)):
            check_raises(self, NoHeight(value), word_count_heights, SEEN, value, None)
        for value in ANY[:4]:
            check_raises(self, BadSaying("saying"), word_count_heights, SEEN, 0, value)


class Words(unittest.TestCase):
    def test_papers_are_right(self):
        words = {}
        for count_heights, height, asked in ASKED:
            found = fit_count_heights(count_heights)
            if not found:
                check_raises(self, Impossible(found), word_count_heights, count_heights, height, asked)
                continue
            paper = word_count_heights(count_heights, height, asked)
            self.assertIn(type(paper), (Always, Nowhere, Both))
            self.assertTrue(is_word_counted(count_heights, height, asked, paper), (str(count_heights.heights), str(asked)))
            self.assertEqual(word_count_heights(count_heights=count_heights, height=height, saying=asked), paper)
            key = (isinstance(asked, Saying), paper.word)
            words[key] = words.get(key, 0) + 1
        self.assertEqual(len(words), 6)
        self.assertGreater(min(words.values()), 5)

    def test_what_is_told_is_always(self):
        for count_heights in POSSIBLE:
            for height, line in enumerate(count_heights.things):
                for thing in line:
                    self.assertEqual(word_count_heights(count_heights, height, thing).word, "always")
            self.assertEqual(word_count_heights(count_heights, 0, Rows(count_heights.window.told)).word, "always")

    def test_entries(self):
        self.assertEqual(word_count_heights(SEEN, 0, RightLeft(5, 8)).word, "nowhere")
        narrow = CountHeights(Heights([FREE, FREE]), Window(Ratio(3, 8), Ratio(2, 5)), [[RightLeft(8, 5)], []])
        self.assertEqual(word_count_heights(narrow, 1, RightLeft(5, 8)), Nowhere([()]))
        both = Rows(TurnIs(Ratio(2, 5)).told + Shorter(B, C).told)
        self.assertEqual(word_count_heights(narrow, 1, both).word, "nowhere")
        self.assertEqual([[len(line) for line in entry] for entry in word_count_heights(narrow, 1, Rows(TurnAbove(0).told + TurnBelow(1).told)).papers], [[1, 1]])
        at_tie = CountHeights(Heights([Book(TurnIs(Ratio(1, 3)).told), FREE]), UNIT, [[OneWay(1, "right")], []])
        self.assertEqual([len(entry) for entry in word_count_heights(at_tie, 1, OneWay(1, "right")).papers], [1, 2])

    def test_short_time(self):
        begin = time.time()
        told = list(Book.read("zero 5 -2 0 , least 1 0 -1/1000 , least -12345678 1 99999999 , above 0 87654321 -1").told)
        books = [Book(told + told[1:]), Book(told[1:] * 2), Book(told[2:] * 2), FREE]
        things = [[SeenBoth(3, 2), OneWay(8, "right")], [OneWay(5, "left"), NearerStud(8, 5)], [NearerStud(21, 20), NearerStud(19, 17)], []]
        wide = CountHeights(Heights(books, [Tie(0, 1, "least"), Tie(2, 1, "least"), Tie(3, 2, "above")]), UNIT, things)
        self.assertGreater(len(cuts([thing for line in things for thing in line], UNIT)), 80)
        found = fit_count_heights(wide)
        self.assertTrue(is_counted(wide, found))
        for height, asked in ((0, LeansRight(A)), (3, SeenBoth(3, 2)), (2, OneWay(3, "right"))):
            if found:
                self.assertTrue(is_word_counted(wide, height, asked, word_count_heights(wide, height, asked)))
        self.assertLess(time.time() - begin, 15)


if __name__ == "__main__":
    unittest.main()
