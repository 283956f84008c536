"""Fractions: mediants, parents, runs."""

import unittest
from fractions import Fraction

from spiralsays.errors import Unlike
from spiralsays.fractions import are_near, mediant, parents, runs_of, whole_of
from spiralsays.ratios import Ratio
from helpers import check_raises, check_wrong, fraction, ratio

SOME = [Fraction(top, bottom) for bottom in range(1, 15) for top in range(-30, 31)]


def way_to(value):
    """The letters and the pair at the end of the way to a ratio, step by step."""
    whole = value.numerator // value.denominator
    low, high, letters = (whole, 1), (whole + 1, 1), ""
    while True:
        middle = (low[0] + high[0], low[1] + high[1])
        if Fraction(*middle) == value:
            return letters, Fraction(*low), Fraction(*high)
        if value < Fraction(*middle):
            letters, high = letters + "L", middle
        else:
            letters, low = letters + "R", middle


def runs_in(letters):
    runs, due = [], "L"
    while letters:
        many = len(letters) - len(letters.lstrip(due))
        runs.append(many)
        letters, due = letters[many:], "R" if due == "L" else "L"
    return tuple(runs)


class Fractions(unittest.TestCase):
    def test_parents_and_runs(self):
        for value in SOME:
            if value.denominator == 1:
                self.assertEqual(parents(ratio(value)), (None, None))
                check_raises(self, Unlike("whole"), runs_of, ratio(value))
                continue
            letters, low, high = way_to(value)
            found = parents(ratio(value))
            self.assertIs(type(found), tuple)
            self.assertEqual([fraction(one) for one in found], [low, high])
            self.assertEqual(runs_of(ratio(value)), runs_in(letters), value)

    def test_kinds(self):
        for one in (*parents(Ratio(1, 2)), mediant(1, 3)):
            self.assertIsInstance(one, Ratio)
        self.assertIs(type(whole_of(Ratio(5, 2))), int)
        self.assertIs(type(runs_of(Ratio(2, 5))), tuple)
        self.assertIs(type(runs_of(Ratio(1, 2))), tuple)

    def test_long_runs(self):
        self.assertEqual(runs_of(Ratio(1, 10 ** 60)), (10 ** 60 - 2,))
        self.assertEqual(runs_of(Ratio(10 ** 60 - 1, 10 ** 60)), (0, 10 ** 60 - 2))
        self.assertEqual(runs_of(Ratio(-1, 10 ** 60)), (0, 10 ** 60 - 2))
        self.assertEqual(parents(Ratio(1, 10 ** 60)), (0, Ratio(1, 10 ** 60 - 1)))
        one, other = 1, 1
        for _ in range(280):
            one, other = other, one + other
        self.assertEqual(runs_of(Ratio(one, other))[0], 0)
        self.assertEqual(set(runs_of(Ratio(one, other))[1:]), {1})

    def test_mediant(self):
        for one in SOME[::17]:
            for other in SOME[::23]:
                due = Fraction(one.numerator + other.numerator, one.denominator + other.denominator)
                self.assertEqual(fraction(mediant(ratio(one), ratio(other))), due)
                near = abs(one.numerator * other.denominator - other.numerator * one.denominator) == 1
                self.assertIs(are_near(ratio(one), ratio(other)), near)

    def test_whole_of(self):
        for value in SOME:
            self.assertEqual(whole_of(ratio(value)), value.numerator // value.denominator)
        self.assertEqual(whole_of(-3), -3)

    def test_wrong(self):
        for call in (mediant, are_near):
            check_wrong(self, call, ("one", "ratio", 1), ("other", "ratio", 2))
        for call in (whole_of, parents, runs_of):
            check_wrong(self, call, ("ratio", "ratio", Ratio(1, 2)))
        check_raises(self, Unlike("whole"), runs_of, 0)
        check_raises(self, Unlike("whole"), runs_of, -4)


if __name__ == "__main__":
    unittest.main()
