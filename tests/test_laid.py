"""Studs laid out: places, nearest rounds, the first stud within."""

import math
import unittest
from fractions import Fraction

from spiralsays.errors import BadNumber
from spiralsays.laid import first_within, laid, nearest_rounds, place
from spiralsays.ratios import Ratio
from spiralsays.stems import Stem
from helpers import ANY, check_raises, check_wrong, fraction, is_integer, is_ratio, ratio

STEMS = [Stem(Ratio(5, 14), Ratio(1, 7)), Stem(Ratio(1, 4), 1), Stem(Ratio(-7, 2), 20), Stem(3, 10), Stem(Ratio(10 ** 40 + 1, 3 * 10 ** 40), 1)]


class Laid(unittest.TestCase):
    def test_places(self):
        for stem in STEMS:
            for stud in [*range(-40, 41), 10 ** 60, -10 ** 60]:
                around = stud * fraction(stem.turn)
                found = place(stem, stud)
                self.assertIsInstance(found, Ratio)
                self.assertEqual(fraction(found), around - math.floor(around))

    def test_nearest_rounds(self):
        for stem in STEMS:
            for stud in range(-40, 41):
                around = stud * fraction(stem.turn)
                near = range(math.floor(around) - 2, math.floor(around) + 4)
                least = min(abs(one - around) for one in near)
                due = tuple(one for one in near if abs(one - around) == least)
                self.assertEqual(nearest_rounds(stem, stud), due)

    def test_laid(self):
        for stem in STEMS:
            for first, last in ((-5, 5), (0, 0), (10 ** 50, 10 ** 50 + 3)):
                due = [(stud, place(stem, stud)) for stud in range(first, last + 1)]
                self.assertEqual(list(laid(stem, first, last)), due)
        self.assertIs(type(list(laid(STEMS[0], 0, 0))[0]), tuple)

    def test_first_within(self):
        ends = [Fraction(0), Fraction(1, 14), Fraction(1, 7), Fraction(1, 2), Fraction(13, 14), Fraction(999, 1000)]
        for stem in STEMS:
            for low in ends:
                for high in ends:
                    for most in (1, 5, 14, 60):
                        if low > high:
                            check_raises(self, BadNumber("high"), first_within, stem, ratio(low), ratio(high), most)
                            continue
                        due = [stud for stud in range(1, most + 1) if low <= stud * fraction(stem.turn) % 1 <= high]
                        found = first_within(stem, ratio(low), ratio(high), most)
                        self.assertEqual(found, due[0] if due else None)
        self.assertIsNone(first_within(Stem(Ratio(1, 1001), 1), 0, 0, 1000))
        self.assertEqual(first_within(Stem(Ratio(1, 1000), 1), 0, 0, 1000), 1000)

    def test_wrong(self):
        stem = STEMS[0]
        for call in (place, nearest_rounds):
            check_wrong(self, call, ("stem", "stem", stem), ("stud", "integer", 1))
        check_wrong(self, lambda one, first: list(laid(one, first, 10)), ("stem", "stem", stem), ("first", "integer", 8))
        for value in [one for one in ANY if not is_integer(one)] + [2, -1]:
            check_raises(self, BadNumber("last"), lambda: list(laid(stem, 3, value)))
        check_raises(self, BadNumber("first"), lambda: list(laid(stem, None, None)))

    def test_first_within_wrong(self):
        stem = STEMS[0]
        for value in ANY:
            if not isinstance(value, Stem):
                self.assertRaisesRegex(ValueError, "^stem$", first_within, value, 0, 0, 1)
                self.assertRaisesRegex(ValueError, "^stem$", first_within, value, None, None, None)
            if not is_ratio(value):
                check_raises(self, BadNumber("low"), first_within, stem, value, value, value)
                check_raises(self, BadNumber("high"), first_within, stem, 0, value, value)
            if not is_integer(value):
                check_raises(self, BadNumber("most"), first_within, stem, 0, 0, value)
        for low in (1, -1, Ratio(-1, 9), Ratio(3, 2)):
            check_raises(self, BadNumber("low"), first_within, stem, low, 0, 0)
        for high in (1, Ratio(1, 3), Ratio(3, 2)):
            check_raises(self, BadNumber("high"), first_within, stem, Ratio(1, 2), high, 0)
        for most in (0, -1, 1001, 10 ** 30):
            check_raises(self, BadNumber("most"), first_within, stem, 0, Ratio(1, 2), most)


if __name__ == "__main__":
    unittest.main()
