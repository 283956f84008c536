"""Rows and told ones."""

import itertools
import unittest

from spiralsays.errors import BadRow, BadTold, Round
from spiralsays.ratios import Ratio
from spiralsays.rows import Row, Told
from spiralsays.stems import Stem
from spiralsays.steps import Step
from helpers import ANY, ROW, check_raises, check_wrong, fraction, worth

STEPS = [Step(k, j) for k, j in itertools.product(range(-3, 4), repeat=2) if (k, j) != (0, 0)]
STEMS = [Stem(Ratio(5, 14), Ratio(1, 7)), Stem(0, 1), Stem(Ratio(-7, 3), 6), Stem(Ratio(1, 3), Ratio(2, 15))]
ROWS = [Row(0, 0, 0), Row(1, -2, 3), Row(Ratio(-1, 2), 0, Ratio(7, 3)), Row(0, 3, -1), Row(2, 0, Ratio(-2, 7)), Row(10 ** 70, 1, 0)]


class Rows(unittest.TestCase):
    def test_made(self):
        check_wrong(self, Row, ("a", "row ratio", 1), ("b", "row ratio", 1), ("c", "row ratio", 1))
        row = Row(a=1, b=Ratio(4, 6), c=0)
        self.assertTrue(all(isinstance(one, Ratio) for one in (row.a, row.b, row.c)))
        self.assertEqual((row.a, row.b, row.c), (1, Ratio(2, 3), 0))

    def test_operators(self):
        for one, other in itertools.product(ROWS, ROWS):
            self.assertEqual(one + other, Row(one.a + other.a, one.b + other.b, one.c + other.c))
            self.assertEqual(one - other, Row(one.a - other.a, one.b - other.b, one.c - other.c))
            self.assertIs(one == other, (one.a, one.b, one.c) == (other.a, other.b, other.c))
        for one in ROWS:
            self.assertEqual(-one, Row(-one.a, -one.b, -one.c))
            for times in (0, 3, Ratio(-2, 5)):
                self.assertEqual(one * times, Row(one.a * times, one.b * times, one.c * times))
            for value in ANY:
                if not isinstance(value, Row):
                    self.assertFalse(one == value)
        check_wrong(self, lambda other: ROW + other, ("other", "row", ROW))
        check_wrong(self, lambda other: ROW - other, ("other", "row", ROW))
        check_wrong(self, lambda times: ROW * times, ("ratio", "ratio", 2))

    def test_at(self):
        for row, stem in itertools.product(ROWS, STEMS):
            self.assertIsInstance(row.at(stem), Ratio)
            self.assertEqual(fraction(row.at(stem)), worth(Told.zero(row), stem))
        check_wrong(self, ROW.at, ("stem", "stem", STEMS[0]))

    def test_of_steps(self):
        for stem in STEMS:
            for one, other in itertools.product(STEPS, STEPS):
                self.assertEqual(Row.of_product(one, other).at(stem), stem.product(one, other))
            for one in STEPS:
                self.assertEqual(Row.of_square(one).at(stem), stem.square(one))
                self.assertEqual(Row.of_lean(one).at(stem), stem.lean(one))

    def test_numbers(self):
        for one, other in itertools.product(STEPS, STEPS):
            (k, j), (m, i) = (one.studs, one.rounds), (other.studs, other.rounds)
            self.assertEqual(Row.of_product(one, other), Row(k * m, -(k * i + m * j), j * i))
            if k == 0:
                check_raises(self, Round("one"), Row.of_steeper, one, other)
            elif m == 0:
                check_raises(self, Round("other"), Row.of_steeper, one, other)
            else:
                row = Row.of_steeper(one, other)
                self.assertEqual(row, Row(0, 2 * k * m * (j * m - k * i), k * k * i * i - m * m * j * j))
                for stem in STEMS:
                    self.assertIs(row.at(stem).sign > 0, stem.is_steeper(one, other))
        for one in STEPS:
            k, j = one.studs, one.rounds
            self.assertEqual(Row.of_square(one), Row(k * k, -2 * k * j, j * j))
            self.assertEqual(Row.of_lean(one), Row(0, k, -j))

    def test_wrong_steps(self):
        good = Step(2, 1)
        for call in (Row.of_square, Row.of_lean):
            check_wrong(self, call, ("step", "step", good))
        for call in (Row.of_product, Row.of_steeper):
            check_wrong(self, call, ("one", "step", good), ("other", "step", good))
        for value in ANY:
            if not isinstance(value, Step):
                self.assertRaisesRegex(ValueError, "^other$", Row.of_steeper, Step(0, 1), value)


class Tolds(unittest.TestCase):
    def test_made(self):
        for value in ANY + ["Zero", "below", "zero ", ["zero"]]:
            check_raises(self, BadTold("kind"), Told, value, None)
            check_raises(self, BadTold("kind"), Told, value, ROW)
            if not isinstance(value, Row):
                for kind in ("zero", "least", "above"):
                    check_raises(self, BadRow("row"), Told, kind, value)
        for call in (Told.zero, Told.least, Told.above):
            check_wrong(self, call, ("row", "row", ROW))
        for one, kind in ((Told.zero(ROW), "zero"), (Told.least(ROW), "least"), (Told.above(ROW), "above")):
            self.assertEqual((one.kind, one.row), (kind, ROW))
            self.assertEqual(one, Told(kind=kind, row=ROW))

    def test_holds(self):
        for row, stem in itertools.product(ROWS, STEMS):
            value = worth(Told.zero(row), stem)
            self.assertIs(Told.zero(row).holds(stem), value == 0)
            self.assertIs(Told.least(row).holds(stem), value >= 0)
            self.assertIs(Told.above(row).holds(stem), value > 0)
        # The least one holds where its row is 0, the above one does not.
        row = Row.of_lean(Step(3, 1))
        self.assertEqual([one(row).holds(STEMS[3]) for one in (Told.zero, Told.least, Told.above)], [True, True, False])
        check_wrong(self, Told.zero(ROW).holds, ("stem", "stem", STEMS[0]))

    def test_contraries(self):
        for row in ROWS:
            self.assertEqual(Told.zero(row).contrary(), (Told.above(row), Told.above(-row)))
            self.assertEqual(Told.least(row).contrary(), (Told.above(-row),))
            self.assertEqual(Told.above(row).contrary(), (Told.least(-row),))
            for one in (Told.zero(row), Told.least(row), Told.above(row)):
                for stem in STEMS:
                    held = [told.holds(stem) for told in (one, *one.contrary())]
                    self.assertEqual(sum(held), 1)

    def test_equal_and_texts(self):
        tolds = [Told(kind, row) for kind in ("zero", "least", "above") for row in ROWS]
        for one, other in itertools.product(tolds, tolds):
            self.assertIs(one == other, (one.kind, one.row) == (other.kind, other.row))
        for one in tolds:
            self.assertFalse(one == str(one))
            self.assertFalse(one == one.row)
        self.assertEqual(str(Told.least(Row(1, Ratio(-2, 3), 0))), "least 1 -2/3 0")
        for one in tolds[:5] + tolds[6:11]:
            self.assertEqual(Told.read(str(one)), one)


if __name__ == "__main__":
    unittest.main()
