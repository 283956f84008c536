"""What shows_fit, shows_simplest and shows_rise take, and what they do not."""

import unittest

from spiralsays.books import Book
from spiralsays.check_fits import shows_fit, shows_rise, shows_simplest
from spiralsays.fits import Kept, OneStep, Simplest, fit, simplest_turn
from spiralsays.papers import Denial, Paper
from spiralsays.ratios import Ratio
from spiralsays.rises import Endless, Highest, Reached, greatest_rise
from spiralsays.stems import Stem
from spiralsays.steps import Step
from helpers import ANY, check_wrong, fraction, is_one_step, is_ratio, keeps, ratio
from some_books import A, B, BLUNT, BY_HAND, C, EVEN, FLAT, MADE_UP

ALL = [book for book, _ in BY_HAND] + MADE_UP


def plain(value):
    """An integer for a whole ratio."""
    return value.top if isinstance(value, Ratio) and value.is_whole else value


def bends(parts, at):
    """The parts with the one at this place bent in many ways."""
    part = parts[at]
    others = [value for value in ANY if not same(value, part)]
    if is_ratio(part):
        others += [ratio(fraction(part) + 1), ratio(-fraction(part) - 1), ratio(fraction(part) * 2 + 1)]
    if isinstance(part, Step):
        others += [-part, part * 2, part + Step(1, 7), (part.studs, part.rounds), str(part)]
    if isinstance(part, tuple):
        others += [part[:-1], (*part, 0), *[(*part[:k], value, *part[k + 1:]) for k in range(len(part)) for value in (None, True, "1", -77, Ratio(-1, 99))]]
        others += [(*part[:k], ratio(fraction(part[k]) + 1), *part[k + 1:]) for k in range(len(part)) if is_ratio(part[k])]
    return [[*parts[:at], value, *parts[at + 1:]] for value in others]


def same(one, other):
    return type(one) is type(other) and one == other


def may_be_one_step(paper):
    """Whether the parts are of the right kinds, so that it can be reckoned."""
    if not (isinstance(paper.weights, tuple) and all(is_ratio(one) for one in paper.weights)):
        return False
    if not (is_ratio(paper.times) and is_ratio(paper.rest)):
        return False
    return paper.step is None or isinstance(paper.step, Step)


class ChecksOfFits(unittest.TestCase):
    def test_what_is_returned(self):
        for book in ALL:
            self.assertIs(shows_fit(book, fit(book)), True)
            if fit(book):
                self.assertIs(shows_simplest(book, simplest_turn(book)), True)
                self.assertIs(shows_rise(book, greatest_rise(book)), True)

    def test_kept(self):
        stems = [fit(book).stem for book in ALL[::9] if fit(book)]
        for book in ALL[::5]:
            for stem in stems:
                self.assertIs(shows_fit(book, Kept(stem)), keeps(stem, book))
        for value in ANY:
            self.assertIs(shows_fit(Book(), Kept(value)), isinstance(value, Stem))
        self.assertIs(shows_fit(Book(), Kept([Stem(0, 1)])), False)

    def test_bent_one_steps(self):
        for book in [book for book in ALL if not fit(book)][::12]:
            paper = fit(book)
            for at in range(4):
                for parts in bends(paper.parts, at):
                    bent = OneStep(*parts)
                    due = may_be_one_step(bent) and is_one_step(book, bent)
                    self.assertIs(shows_fit(book, bent), due, (str(book), parts))

    def test_other_right_one_steps(self):
        # Another measure: all four weights multiplied, a step with a divisor, integers and lists.
        for paper in (
            OneStep([1, 1], A, 1, 0), OneStep((Ratio(1), Ratio(1)), A, Ratio(1), Ratio(0)), OneStep([7, 7], A, 7, 0),
            OneStep([Ratio(1, 3), Ratio(1, 3)], A, Ratio(1, 3), 0), OneStep([4, 4], A * 2, 1, 0), OneStep([1, 1], A * 5, Ratio(1, 25), 0),
        ):
            self.assertIs(shows_fit(BLUNT, paper), True)
        for paper in (
            OneStep([1, 1], -A, 1, 0), OneStep([1, 1], A, 2, 0), OneStep([1, 1], A, 1, 1), OneStep([1, 2], A, 1, 0), OneStep([1], A, 1, 0),
            OneStep([1, 1, 0], A, 1, 0), OneStep([1, 1], B, 1, 0), OneStep([1, 1], None, 1, 0), OneStep([0, 0], A, 0, 0), OneStep([0, 0], None, 0, 0),
            OneStep([True, 1], A, 1, 0), OneStep([1, 1], A, True, 0), OneStep([1, 1], A, 1, False), OneStep([1, 1], (3, 1), 1, 0),
            OneStep([1, 1], A, 1, None), OneStep("11", A, 1, 0), OneStep([-1, -1], A, -1, 0), OneStep([1, 1], A * 2, 1, 0),
            Paper("onestep", [1, 1], A, 1, 0), Denial("onestep", [1, 1], A, 1, 0),
        ):
            self.assertIs(shows_fit(BLUNT, paper), False)

    def test_one_steps_of_zero_rows(self):
        # A zero row may have a weight below 0, the others may not.
        book = Book.read("zero 0 0 1 , least 0 0 1")
        self.assertIs(shows_fit(book, OneStep([-1, 0], None, 0, 1)), True)
        self.assertIs(shows_fit(book, OneStep([-2, 1], None, 0, 1)), True)
        self.assertIs(shows_fit(book, OneStep([0, -1], None, 0, 1)), False)
        self.assertIs(shows_fit(book, OneStep([1, -2], None, 0, 1)), False)

    def test_sums_of_nothing(self):
        # All comes to 0: then an above one must have a weight.
        book = Book.read("above 0 1 0 , least 0 -1 0 , least 0 1 0")
        self.assertIs(shows_fit(book, OneStep([1, 1, 0], None, 0, 0)), True)
        self.assertIs(shows_fit(book, OneStep([0, 1, 1], None, 0, 0)), False)
        self.assertIs(shows_fit(book, OneStep([1, 1, 0], A, 0, 0)), False)
        self.assertIs(shows_fit(book, OneStep([0, 0, 0], None, 0, 0)), False)

    def test_round_as_step(self):
        book = Book.read("least 0 0 -1")
        self.assertIs(shows_fit(book, OneStep([1], Step.one_round(), 1, 0)), False)
        self.assertIs(shows_fit(book, OneStep([1], None, 0, 1)), True)

    def test_other_simplest(self):
        stem = simplest_turn(EVEN).stem
        low, high = OneStep([Ratio(1, 5), Ratio(2, 5)], B, 1, 0), OneStep([Ratio(1, 5), Ratio(3, 5)], C, Ratio(1, 4), Ratio(1, 20))
        self.assertIs(shows_simplest(EVEN, Simplest(Ratio(1, 3), stem, low, high)), True)
        self.assertIs(shows_simplest(EVEN, Simplest(Ratio(1, 3), stem, OneStep([1, 2], B * 2, Ratio(5, 4), 0), high)), True)
        right = [Ratio(1, 3), stem, low, high]
        for at in range(4):
            for value in ANY:
                self.assertIs(shows_simplest(EVEN, Simplest(*right[:at], value, *right[at + 1:])), False)
        for parts in (
            [Ratio(1, 3), stem, high, low], [Ratio(1, 3), stem, low, low], [Ratio(2, 5), stem, low, high], [Ratio(1, 3), Stem(Ratio(1, 3), 1), low, high],
            [Ratio(1, 3), Stem(Ratio(1, 5), Ratio(2, 25)), low, high], [Ratio(1, 5), Stem(Ratio(1, 5), Ratio(2, 25)), low, high],
            [Ratio(1, 3), stem, OneStep(low.weights, B, 1, 1), high],
        ):
            self.assertIs(shows_simplest(EVEN, Simplest(*parts)), False)

    def test_whole_simplest(self):
        free = Stem(0, 1)
        self.assertIs(shows_simplest(Book(), Simplest(0, free, None, None)), True)
        self.assertIs(shows_simplest(Book(), Simplest(Ratio(0), Stem(0, 7), None, None)), True)
        self.assertIs(shows_simplest(Book(), Simplest(False, free, None, None)), False)
        self.assertIs(shows_simplest(Book(), Simplest(1, Stem(1, 2), None, None)), False)
        for text, turn in (("least 0 1 -2", 2), ("least 0 -1 -2", -2)):
            book = Book.read(text)
            beside = OneStep([1, 1], None, 0, 1)
            low, high = (beside, None) if turn > 0 else (None, beside)
            stem = Stem(turn, 5)
            self.assertIs(shows_simplest(book, Simplest(turn, stem, low, high)), True)
            self.assertIs(shows_simplest(book, Simplest(turn, stem, high, low)), False)
            self.assertIs(shows_simplest(book, Simplest(turn, stem, beside, beside)), False)
            self.assertIs(shows_simplest(book, Simplest(turn, stem, None, None)), False)
        # Not the simplest one, with a right OneStep for a lesser one only.
        self.assertIs(shows_simplest(Book.read("least 0 1 -2"), Simplest(3, Stem(3, 10), OneStep([1, 1], None, 0, 1), None)), False)

    def test_simplest_of_impossible_books(self):
        for value in (Simplest(0, Stem(0, 1), None, None), fit(BLUNT), None):
            self.assertIs(shows_simplest(BLUNT, value), False)

    def test_other_highest(self):
        for weights, step, due in (
            ([Ratio(1, 5)], Step(5, 1), True), ([Ratio(1, 5)], Step(10, 2), True), ([Ratio(1, 5)], Step(-5, -1), False), ([Ratio(1, 5)], Step(5, 2), False),
            ([1], Step(5, 1), False), ([], Step(5, 1), False), ([Ratio(1, 5), 0], Step(5, 1), False), ([Ratio(1, 5)], None, False),
            ([Ratio(1, 5)], Step.one_round(), False),
        ):
            self.assertIs(shows_rise(EVEN, Highest(Ratio(1, 25), weights, step)), due)
        right = [Ratio(1, 25), (Ratio(1, 5),), Step(5, 1)]
        for at in range(3):
            for parts in bends(right, at):
                due = at == 2 and parts[2] == Step(10, 2)
                self.assertIs(shows_rise(EVEN, Highest(*parts)), due, parts)
        self.assertIs(shows_rise(FLAT, Highest(Ratio(1, 2), [1], B)), True)
        self.assertIs(shows_rise(FLAT, Highest(Ratio(1, 2), [True], B)), False)

    def test_bound_that_is_not_the_least(self):
        # The sum is as told, but the place is not left by the second row.
        book = Book.read("least -1 0 1 , least 0 1 -1/2")
        self.assertIs(shows_rise(book, Highest(1, [1, 0], B)), False)
        self.assertIs(shows_rise(book, Highest(Ratio(3, 4), [1, 1], C)), True)
        self.assertIs(shows_rise(book, Highest(Ratio(3, 4), [1, -1], C)), False)

    def test_weights_below_zero(self):
        # Minus the second row is what the sum would take.
        book = Book.read("least -1 0 1 , least 0 -1 1/2")
        self.assertIs(shows_rise(book, Highest(Ratio(3, 4), [1, -1], C)), False)

    def test_highest_of_an_impossible_book(self):
        # At the place both rows are 0; an above one leaves nothing.
        book = Book.read("zero -1 0 1 , above -1 0 1")
        self.assertFalse(fit(book))
        self.assertIs(shows_rise(book, Highest(1, [1, 0], B)), True)
        self.assertIs(shows_rise(book, Highest(1, [0, 1], B)), True)
        self.assertIs(shows_rise(Book.read("zero -1 0 0"), Highest(0, [1], B)), False)

    def test_endless(self):
        for text in ("-", "zero 0 1 0", "least 2 0 -1", "above 0 0 1"):
            self.assertIs(shows_rise(Book.read(text), Endless(Stem(0, 1))), True)
        for text in ("zero 1 0 -1", "least -1 0 1", "above -1 0 5", "zero -1 0 1", "zero 0 1 -1"):
            self.assertIs(shows_rise(Book.read(text), Endless(Stem(0, 1))), False)
        for value in ANY:
            self.assertIs(shows_rise(Book(), Endless(value)), isinstance(value, Stem))

    def test_other_values(self):
        values = [*ANY, Kept(None), Endless(None), Highest(None, None, None), OneStep(None, None, None, None), Simplest(None, None, None, None), Reached(Stem(0, 1))]
        for value in values:
            for book in (EVEN, BLUNT, FLAT):
                for call in (shows_fit, shows_simplest, shows_rise):
                    self.assertIs(call(book, value), False)
        self.assertIs(shows_fit(Book(), Endless(Stem(0, 1))), False)
        self.assertIs(shows_rise(Book(), Kept(Stem(0, 1))), False)
        for call in (shows_fit, shows_simplest, shows_rise):
            check_wrong(self, lambda book: call(book, None), ("book", "book", EVEN))


if __name__ == "__main__":
    unittest.main()
