"""Stems: squares, products, leans."""

import itertools
import unittest
from fractions import Fraction

from spiralsays.errors import BadStem, Round
from spiralsays.ratios import Ratio
from spiralsays.stems import Stem
from spiralsays.steps import Step
from helpers import ANY, check_raises, check_wrong, fraction

STEMS = [Stem(Ratio(5, 14), Ratio(1, 7)), Stem(0, 1), Stem(Ratio(-7, 3), 6), Stem(4, Ratio(33, 2)), Stem(Ratio(1, 10 ** 30), 2)]
STEPS = [Step(k, j) for k, j in itertools.product(range(-3, 4), repeat=2) if (k, j) != (0, 0)]


class Stems(unittest.TestCase):
    def test_made(self):
        check_wrong(self, Stem, ("turn", "stem ratio", 0), ("squared", "stem ratio", 10 ** 200))
        for turn, squared in ((0, 0), (1, 1), (-1, 1), (Ratio(1, 2), Ratio(1, 4)), (3, 8), (0, -1)):
            check_raises(self, BadStem("stem"), Stem, turn, squared)
        stem = Stem(1, 2)
        for one in (stem.turn, stem.squared, stem.rise):
            self.assertIsInstance(one, Ratio)
        for stem in STEMS:
            self.assertEqual(fraction(stem.rise), fraction(stem.squared) - fraction(stem.turn) ** 2)

    def test_products(self):
        for stem in STEMS:
            turn, squared = fraction(stem.turn), fraction(stem.squared)
            for one, other in itertools.product(STEPS, STEPS):
                (k, j), (m, i) = (one.studs, one.rounds), (other.studs, other.rounds)
                due = k * m * squared - (k * i + m * j) * turn + j * i
                found = stem.product(one, other)
                self.assertIsInstance(found, Ratio)
                self.assertEqual(fraction(found), due)
            for one in STEPS:
                k, j = one.studs, one.rounds
                self.assertEqual(fraction(stem.square(one)), k * k * squared - 2 * k * j * turn + j * j)
                self.assertGreater(fraction(stem.square(one)), 0)
                self.assertEqual(fraction(stem.lean(one)), k * turn - j)
                self.assertIsInstance(stem.lean(one), Ratio)

    def test_steeper(self):
        for stem in STEMS:
            turn = fraction(stem.turn)
            for one, other in itertools.product(STEPS, STEPS):
                k, m = one.studs, other.studs
                if k == 0:
                    check_raises(self, Round("one"), stem.is_steeper, one, other)
                elif m == 0:
                    check_raises(self, Round("other"), stem.is_steeper, one, other)
                else:
                    due = abs((k * turn - one.rounds) / Fraction(k)) < abs((m * turn - other.rounds) / Fraction(m))
                    self.assertIs(stem.is_steeper(one, other), due)

    def test_wrong(self):
        stem = STEMS[0]
        for call in (stem.square, stem.lean):
            check_wrong(self, call, ("step", "step", Step(1, 0)))
        for call in (stem.product, stem.is_steeper):
            check_wrong(self, call, ("one", "step", Step(1, 0)), ("other", "step", Step(1, 1)))
        # A value that is no step comes ahead of the round, wherever it stands.
        for value in ANY:
            if not isinstance(value, Step):
                self.assertRaisesRegex(ValueError, "other", stem.is_steeper, Step(0, 1), value)

    def test_equal(self):
        for one, other in itertools.product(STEMS, STEMS):
            self.assertIs(one == other, one is other)
        self.assertEqual(Stem(Ratio(1, 2), 1), Stem(turn=Ratio(2, 4), squared=Ratio(1)))
        self.assertFalse(Stem(0, 1) == Stem(0, 2))
        for value in ANY:
            if not isinstance(value, Stem):
                self.assertFalse(STEMS[0] == value)


if __name__ == "__main__":
    unittest.main()
