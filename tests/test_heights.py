"""Ties, heights, and where ties lead."""

import itertools
import random
import unittest

from spiralsays.books import Book
from spiralsays.errors import BadBook, BadNumber, BadTie, NoHeight, TooMany
from spiralsays.heights import Heights, Tie
from spiralsays.ratios import Ratio
from spiralsays.rows import Row, Told
from spiralsays.ties import equal_heights, tied
from helpers import ANY, check_raises, check_wrong, fraction, is_integer, is_ratio
from some_books import BLUNT, EVEN, FLAT

KINDS = ("zero", "least", "above")
TIES = [Tie(one, other, kind) for one in range(4) for other in range(4) for kind in KINDS if one != other]
FREE = Book()
TWO = Heights.read("zero 5 -2 0 | zero 16 -14 3 ; 0 1 above")


def holds_tie(tie, squares):
    far = fraction(squares[tie.one]) - fraction(squares[tie.other])
    return far == 0 if tie.kind == "zero" else far > 0 if tie.kind == "above" else far >= 0


class Ties(unittest.TestCase):
    def test_values(self):
        for tie in TIES:
            self.assertEqual(str(tie), f"{tie.one} {tie.other} {tie.kind}")
            self.assertEqual(Tie(one=tie.one, other=tie.other, kind=tie.kind), tie)
            self.assertEqual(Tie.read(str(tie)), tie)
            for other in TIES:
                self.assertIs(tie == other, str(tie) == str(other))
            for value in (None, str(tie), 1, (0, 1, "zero")):
                self.assertIs(tie == value, False)

    def test_contraries(self):
        self.assertEqual([str(one) for one in Tie(2, 1, "zero").contrary()], ["2 1 above", "1 2 above"])
        self.assertEqual([str(one) for one in Tie(2, 1, "least").contrary()], ["1 2 above"])
        self.assertEqual([str(one) for one in Tie(2, 1, "above").contrary()], ["1 2 least"])
        # At each pair just one of a tie and its contraries holds.
        for tie in TIES:
            self.assertIs(type(tie.contrary()), tuple)
            for squares in itertools.product((1, Ratio(1, 2), 3), repeat=4):
                self.assertEqual(sum(holds_tie(one, squares) for one in (tie, *tie.contrary())), 1)

    def test_wrong(self):
        number = lambda value: is_integer(value) and 0 <= value <= 3
        other = lambda value: is_integer(value) and 0 <= value <= 3 and value != 1
        check_wrong(self, Tie, ("one", (number, BadTie), 1), ("other", (other, BadTie), 2), ("kind", (lambda value: False, BadTie), "zero"))
        for value in (4, -1):
            check_raises(self, BadTie("one"), Tie, value, value, "zero")
            check_raises(self, BadTie("other"), Tie, 0, value, None)
        for value in range(4):
            check_raises(self, BadTie("other"), Tie, value, value, "zero")
        for kind in ("Zero", "", "below", ["zero"], None, True):
            check_raises(self, BadTie("kind"), Tie, 0, 1, kind)


class ManyHeights(unittest.TestCase):
    def test_values(self):
        given, ties = [FREE, EVEN, BLUNT], [Tie(0, 2, "zero"), Tie(1, 0, "least")]
        heights = Heights(given, ties)
        given.clear()
        ties.clear()
        self.assertEqual((heights.books, heights.ties), ((FREE, EVEN, BLUNT), (Tie(0, 2, "zero"), Tie(1, 0, "least"))))
        self.assertEqual((len(heights), Heights.MOST, len(Heights([FREE]))), (3, 4, 1))
        self.assertEqual(Heights(books=(FREE, EVEN, BLUNT), ties=heights.ties), heights)
        self.assertEqual(Heights([FREE]).ties, ())
        self.assertEqual(str(heights), f"- | {EVEN} | {BLUNT} ; 0 2 zero , 1 0 least")
        self.assertEqual(Heights.read(str(heights)), heights)
        for other in (Heights([FREE, EVEN, BLUNT]), Heights([FREE, EVEN, BLUNT], heights.ties[::-1]), Heights([FREE, BLUNT, EVEN], heights.ties), None, heights.books, str(heights)):
            self.assertIs(heights == other, False)

    def test_four_and_five(self):
        self.assertEqual(len(Heights([FREE] * 4)), 4)
        check_raises(self, TooMany("heights", 4), Heights, [FREE] * 5)
        self.assertEqual(len(Heights([FREE] * 2, [Tie(0, 1, "zero")] * 12).ties), 12)
        check_raises(self, TooMany("ties", 12), Heights, [FREE] * 2, [Tie(0, 1, "zero")] * 13)
        check_raises(self, TooMany("heights", 4), Heights, [FREE] * 5, [Tie(0, 1, "zero")] * 13)
        check_raises(self, NoHeight(3), Heights, [FREE] * 3, [Tie(0, 1, "zero")] * 13 + [Tie(0, 3, "zero"), Tie(3, 2, "zero")])

    def test_wrong(self):
        check_wrong(self, Heights, ("books", "books", [FREE, EVEN]), ("ties", "ties", [Tie(0, 1, "zero")]))
        check_raises(self, BadBook("books"), Heights, [], None)
        check_raises(self, BadBook("books"), Heights, ())
        for ties, number in (([Tie(0, 2, "zero")], 2), ([Tie(3, 2, "zero")], 3), ([Tie(2, 3, "zero")], 2), ([Tie(0, 1, "zero"), Tie(1, 3, "above"), Tie(2, 0, "zero")], 3)):
            check_raises(self, NoHeight(number), Heights, [FREE] * 2, ties)
        check_raises(self, NoHeight(1), Heights, [FREE], [Tie(1, 0, "zero")])
        check_raises(self, BadTie("ties"), Heights, [FREE], [Tie(1, 0, "zero"), None])

    def test_with_more(self):
        told, tie = Told.least(Row(1, 2, 3)), Tie(1, 0, "least")
        more = TWO.with_told(1, told)
        self.assertEqual((more.books, more.ties), ((TWO.books[0], TWO.books[1].with_told(told)), TWO.ties))
        self.assertEqual(TWO.with_told(height=0, told=told).books[0], TWO.books[0].with_told(told))
        self.assertEqual((TWO.with_tie(tie).books, TWO.with_tie(tie=tie).ties), (TWO.books, TWO.ties + (tie,)))
        self.assertEqual([TWO.alone(0), TWO.alone(height=1)], [Heights([book]) for book in TWO.books])
        check_wrong(self, TWO.with_told, ("height", "height of two", 1), ("told", "told", told))
        check_wrong(self, TWO.with_tie, ("tie", "tie", tie))
        check_wrong(self, TWO.alone, ("height", "height of two", 0))
        for call in (lambda value: TWO.with_told(value, None), TWO.alone):
            for value in (2, -1):
                check_raises(self, NoHeight(value), call, value)
        check_raises(self, NoHeight(2), TWO.with_tie, Tie(2, 0, "zero"))
        check_raises(self, NoHeight(3), TWO.with_tie, Tie(0, 3, "zero"))
        full = Heights([FREE, Book([told] * 40)], [tie] * 12)
        check_raises(self, TooMany("told", 40), full.with_told, 1, told)
        self.assertEqual(len(full.with_told(0, told).books[0]), 1)
        check_raises(self, TooMany("ties", 12), full.with_tie, tie)
        check_raises(self, NoHeight(2), full.with_tie, Tie(0, 2, "zero"))

    def test_holds(self):
        chance = random.Random(3)
        books = [FREE, EVEN, FLAT, Book.read("least 0 1 -1/3"), Book.read("zero 1 0 -1/7")]
        seen = {True: 0, False: 0}
        for _ in range(1500):
            many = chance.randint(1, 4)
            chosen = [chance.choice(books[:1] * 3 + books) for _ in range(many)]
            ties = [tie for tie in chance.sample(TIES, chance.randint(0, 3)) if tie.one < many and tie.other < many]
            heights = Heights(chosen, ties)
            turn = Ratio(1, chance.randint(2, 3))
            squares = [chance.choice([Ratio(1, 7), Ratio(1, 4), Ratio(2, 15), Ratio(1, 3), 1, Ratio(1, 9)]) for _ in range(many)]
            due = all(fraction(one) > fraction(turn) ** 2 for one in squares) and all(holds_tie(tie, squares) for tie in ties)
            for square, book in zip(squares, chosen):
                for told in book:
                    value = fraction(told.row.a) * fraction(square) + fraction(told.row.b) * fraction(turn) + fraction(told.row.c)
                    due = due and (value == 0 if told.kind == "zero" else value > 0 if told.kind == "above" else value >= 0)
            self.assertIs(heights.holds(turn, squares), due)
            self.assertIs(heights.holds(turn=turn, squares=tuple(squares)), due)
            seen[due] += 1
        self.assertGreater(min(seen.values()), 100)

    def test_holds_above_the_square_alone(self):
        free = Heights([FREE])
        for squared, due in ((Ratio(1, 4), False), (Ratio(26, 100), True), (0, False), (-1, False), (1, True)):
            self.assertIs(free.holds(Ratio(1, 2), [squared]), due)

    def test_wrong_holds(self):
        squares = lambda value: isinstance(value, (list, tuple)) and len(value) == 2 and all(is_ratio(one) for one in value)
        check_wrong(self, TWO.holds, ("turn", "ratio", Ratio(1, 3)), ("squares", (squares, BadNumber), [1, Ratio(1, 2)]))
        for value in ([1], [1, 2, 3], [], [1, None], [1, True], "12", {1: 1, 2: 2}):
            check_raises(self, BadNumber("squares"), TWO.holds, 0, value)


def walks(heights, one, other):
    """The word of all walks along ties, by trying the states (height, whether an above tie was met)."""
    ways = [(tie.one, tie.other, tie.kind == "above") for tie in heights.ties]
    ways += [(tie.other, tie.one, False) for tie in heights.ties if tie.kind == "zero"]
    states = {(one, False)}
    while True:
        more = {(end, met or above) for here, met in states for begin, end, above in ways if begin == here} - states
        if not more:
            break
        states |= more
    return "above" if (other, True) in states else "least" if (other, False) in states else None


class Leading(unittest.TestCase):
    def some_heights(self):
        chance = random.Random(6)
        found = [Heights([FREE] * many) for many in range(1, 5)]
        found += [Heights([FREE] * 4, [Tie(0, 1, kind), Tie(1, 2, "least"), Tie(2, 3, "least"), Tie(3, 0, "least")]) for kind in KINDS]
        found += [Heights([FREE] * 2, [Tie(0, 1, "above"), Tie(1, 0, "above")]), Heights([FREE] * 3, [Tie(0, 1, "above"), Tie(1, 2, "zero"), Tie(2, 0, "zero")])]
        for _ in range(400):
            many = chance.randint(2, 4)
            ties = [tie for tie in TIES if tie.one < many and tie.other < many]
            found.append(Heights([FREE] * many, [chance.choice(ties) for _ in range(chance.choice([1, 2, 3, 3, 4, 5, 12]))]))
        return found

    def test_tied(self):
        seen = {}
        for heights in self.some_heights():
            for one in range(len(heights)):
                for other in range(len(heights)):
                    found = tied(heights, one, other)
                    self.assertEqual(found, walks(heights, one, other), (str(heights), one, other))
                    seen[found, one == other] = True
        self.assertEqual(len(seen), 5)
        self.assertNotIn((None, True), seen)

    def test_equal_heights(self):
        for heights in self.some_heights():
            many = len(heights)
            alike = [[walks(heights, one, other) is not None and walks(heights, other, one) is not None for other in range(many)] for one in range(many)]
            due = tuple(dict.fromkeys(tuple(other for other in range(many) if alike[one][other]) for one in range(many)))
            self.assertEqual(equal_heights(heights), due)

    def test_by_hand(self):
        ring = Heights([FREE] * 3, [Tie(0, 1, "least"), Tie(1, 2, "least"), Tie(2, 0, "least")])
        self.assertEqual((equal_heights(ring), tied(ring, 2, 1), tied(ring, 1, 1)), (((0, 1, 2),), "least", "least"))
        self.assertEqual(equal_heights(Heights([FREE] * 4, [Tie(3, 1, "zero"), Tie(0, 2, "above")])), ((0,), (1, 3), (2,)))
        # A height is tied to itself above by others: such heights are impossible.
        self.assertEqual(tied(Heights([FREE] * 2, [Tie(0, 1, "zero"), Tie(1, 0, "above")]), 0, 0), "above")
        self.assertEqual(tied(Heights([FREE] * 2), 0, 0), "least")
        self.assertIsNone(tied(Heights([FREE] * 2), 0, 1))

    def test_wrong(self):
        check_wrong(self, tied, ("heights", "heights", TWO), ("one", "height of two", 0), ("other", "height of two", 1))
        check_wrong(self, equal_heights, ("heights", "heights", TWO))
        for value in (2, -1, Ratio(1), True):
            check_raises(self, NoHeight(value), tied, TWO, value, None)
            check_raises(self, NoHeight(value), tied, TWO, 1, value)
        for value in ANY:
            if not isinstance(value, Heights):
                self.assertIs(TWO == value, False)


if __name__ == "__main__":
    unittest.main()
