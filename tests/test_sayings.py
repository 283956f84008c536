"""Sayings: their told ones by the table, reckoned at many stems; errors, ==, texts."""

import random
import unittest
from fractions import Fraction

from spiralsays.errors import BadNumber, NotNeighbours, Round, TooMany
from spiralsays.nets import Net
from spiralsays.ratios import Ratio
from spiralsays.rows import Row, Told
from spiralsays.sayings import (
    AsLong, Blunt, IsNet, LeansLeft, LeansRight, Longer, Nearest, NoLonger, RightAngle, Rows, Saying, Sharp, Shorter, Steeper,
    StraightUp, TurnAbove, TurnAtLeast, TurnAtMost, TurnBelow, TurnIs,
)
from spiralsays.stems import Stem
from spiralsays.steps import Step
from helpers import check_raises, check_wrong, fraction, worth
from some_sayings import (
    A, B, C, LENGTHS, NEIGHBOURS, NETS, OF_LENGTHS, OF_PAIRS, OF_RATIOS, OF_STEPS, PAIRS, RATIOS, ROUND, ROWS, SAYINGS, WITH_STUDS,
)


def some_stems():
    chance = random.Random(4)
    turns = [Ratio(chance.randint(-12, 12), chance.randint(1, 9)) for _ in range(25)] + [Ratio(1, 3), Ratio(0), Ratio(3, 8)]
    return [Stem(turn, turn * turn + Ratio(chance.randint(1, 30), chance.randint(1, 40))) for turn in turns]


STEMS = some_stems()


def product(stem, one, other):
    turn, squared = fraction(stem.turn), fraction(stem.squared)
    return one.studs * other.studs * squared - (one.studs * other.rounds + other.studs * one.rounds) * turn + one.rounds * other.rounds


def square(stem, step):
    return product(stem, step, step)


def lean(stem, step):
    """That of the upward one of step and its opposite."""
    value = step.studs * fraction(stem.turn) - step.rounds
    return value if step.studs > 0 else -value


def steepness(stem, one, other):
    return (lean(stem, other) * one.studs) ** 2 - (lean(stem, one) * other.studs) ** 2


# What each told one of a saying is worth at a stem, and its kind.
DUE = {
    Shorter: (("above",), lambda at, one, other: [square(at, other) - square(at, one)]),
    AsLong: (("zero",), lambda at, one, other: [square(at, one) - square(at, other)]),
    Sharp: (("above",), lambda at, one, other: [product(at, one, other)]),
    RightAngle: (("zero",), lambda at, one, other: [product(at, one, other)]),
    Blunt: (("above",), lambda at, one, other: [-product(at, one, other)]),
    LeansRight: (("above",), lambda at, step: [lean(at, step)]),
    StraightUp: (("zero",), lambda at, step: [lean(at, step)]),
    LeansLeft: (("above",), lambda at, step: [-lean(at, step)]),
    Steeper: (("above",), lambda at, one, other: [steepness(at, one, other)]),
    NoLonger: (("least",), lambda at, step, length: [fraction(length) ** 2 - square(at, step)]),
    Longer: (("above",), lambda at, step, length: [square(at, step) - fraction(length) ** 2]),
    TurnAtMost: (("least",), lambda at, value: [fraction(value) - fraction(at.turn)]),
    TurnBelow: (("above",), lambda at, value: [fraction(value) - fraction(at.turn)]),
    TurnAtLeast: (("least",), lambda at, value: [fraction(at.turn) - fraction(value)]),
    TurnAbove: (("above",), lambda at, value: [fraction(at.turn) - fraction(value)]),
    TurnIs: (("zero",), lambda at, value: [fraction(at.turn) - fraction(value)]),
    IsNet: (("least",) * 3, lambda at, net: [
        -product(at, net.low, net.high), product(at, net.low, net.low + net.high), product(at, net.high, net.low + net.high),
    ]),
    Nearest: (("least",) * 3, lambda at, one, other: [
        square(at, one) - 2 * product(at, one, other), square(at, one) + 2 * product(at, one, other), square(at, other) - square(at, one),
    ]),
}
PARTS = (
    [(kind, pair) for kind in OF_PAIRS for pair in PAIRS] + [(Steeper, pair) for pair in WITH_STUDS]
    + [(kind, (step,)) for kind in OF_STEPS for step in (A, C, Step(-2, -1), Step(-4, 6))]
    + [(kind, (step, length)) for kind in OF_LENGTHS for step in (A, ROUND, Step(-2, -1)) for length in LENGTHS]
    + [(kind, (value,)) for kind in OF_RATIOS for value in RATIOS] + [(IsNet, (net,)) for net in NETS]
    + [(Nearest, pair) for pair in NEIGHBOURS]
)
NAMES = {
    Shorter: "one other", AsLong: "one other", Sharp: "one other", RightAngle: "one other", Blunt: "one other", Steeper: "one other",
    Nearest: "one other", LeansRight: "step", StraightUp: "step", LeansLeft: "step", NoLonger: "step length", Longer: "step length",
    TurnAtMost: "ratio", TurnBelow: "ratio", TurnAtLeast: "ratio", TurnAbove: "ratio", TurnIs: "ratio", IsNet: "net",
}


class Sayings(unittest.TestCase):
    def test_told_ones(self):
        self.assertEqual({kind for kind, _ in PARTS}, set(DUE))
        for kind, parts in PARTS:
            saying = kind(*parts)
            kinds, rows = DUE[kind]
            self.assertIs(type(saying.told), tuple)
            self.assertEqual(tuple(told.kind for told in saying.told), kinds)
            for stem in STEMS:
                self.assertEqual([worth(told, stem) for told in saying.told], rows(stem, *parts), (str(saying), str(stem)))

    def test_steeper_is_that_of_the_row(self):
        for one, other in WITH_STUDS:
            for first in (one, -one):
                for second in (other, -other):
                    self.assertEqual(Steeper(first, second).told, (Told.above(Row.of_steeper(one, other)),))
                    self.assertEqual(Steeper(first, second) == Steeper(one, other), (first, second) == (one, other))

    def test_upward_one_leans(self):
        for kind in OF_STEPS:
            for step in (A, Step(-4, 6)):
                self.assertEqual(kind(step).told, kind(-step).told)
                self.assertNotEqual(kind(step), kind(-step))

    def test_attributes_and_texts(self):
        for kind, parts in PARTS:
            saying, names = kind(*parts), NAMES[kind].split()
            self.assertEqual(kind(**dict(zip(names, parts))), saying)
            for name, part in zip(names, parts):
                self.assertEqual(getattr(saying, name), part)
                if name in ("length", "ratio"):
                    self.assertIs(type(getattr(saying, name)), Ratio)
            self.assertEqual(str(saying), " ".join([kind.__name__.lower(), *map(str, parts)]))
        for told in ROWS:
            self.assertEqual(str(Rows(told)), "rows " + " , ".join(map(str, told)))
            self.assertEqual(Rows(told).told, tuple(told))
            self.assertEqual(Rows(tuple(told)), Rows(told=told))
        given = list(ROWS[1])
        saying = Rows(given)
        given.clear()
        self.assertEqual(len(saying.told), 2)

    def test_equal(self):
        for at, one in enumerate(SAYINGS):
            self.assertIsInstance(one, Saying)
            self.assertEqual(type(one).__bases__, (Saying,))
            for number, other in enumerate(SAYINGS):
                self.assertIs(one == other, at == number, (str(one), str(other)))
                self.assertIs(one != other, at != number)
            for value in (None, str(one), one.told, one.told[0], 1):
                self.assertIs(one == value, False)
            self.assertEqual(Saying.read(str(one)), one)

    def test_other_rows(self):
        self.assertNotEqual(Rows(TurnAbove(0).told), TurnAbove(0))
        self.assertNotEqual(Rows([Told.least(Row(0, 1, 0))]), Rows([Told.least(Row(0, 1, 0))] * 2))

    def test_nearest_is_told_of_the_shortest(self):
        steps = [Step(k, j) for k in range(0, 9) for j in range(-9, 10) if k > 0 or j > 0]
        for stem in STEMS:
            for one, other in NEIGHBOURS:
                if all(told.holds(stem) for told in Nearest(one, other).told):
                    for step in steps:
                        self.assertGreaterEqual(square(stem, step), square(stem, one))
                        if step.studs * one.rounds != step.rounds * one.studs:
                            self.assertGreaterEqual(square(stem, step), square(stem, other))

    def test_wrong(self):
        for kind in (*OF_PAIRS, Steeper, Nearest):
            check_wrong(self, kind, ("one", "step", A), ("other", "step", C))
        for kind in OF_STEPS:
            check_wrong(self, kind, ("step", "step", A))
            check_raises(self, Round("step"), kind, ROUND)
            check_raises(self, Round("step"), kind, Step(0, -3))
        for kind in OF_LENGTHS:
            check_wrong(self, kind, ("step", "step", A), ("length", "length", Ratio(1, 2)))
            for length in (-1, Ratio(-1, 1000)):
                check_raises(self, BadNumber("length"), kind, ROUND, length)
            self.assertEqual(kind(A, 0).length, 0)
        for kind in OF_RATIOS:
            check_wrong(self, kind, ("ratio", "ratio", Ratio(1, 2)))
        check_wrong(self, IsNet, ("net", "net", Net.first(0)))
        check_wrong(self, Rows, ("told", "saying's tolds", [Told.zero(Row(1, 0, 0))]))

    def test_wrong_steps(self):
        check_raises(self, Round("one"), Steeper, ROUND, ROUND)
        check_raises(self, Round("one"), Steeper, Step(0, -1), B)
        check_raises(self, Round("other"), Steeper, B, ROUND)
        for one, other in ((A, A), (B, A), (A, Step(6, 2)), (Step(4, 2), B), (ROUND, -ROUND), (A, -A), (Step(2, 0), ROUND)):
            if abs(one.studs * other.rounds - other.studs * one.rounds) != 1:
                check_raises(self, NotNeighbours(one, other), Nearest, one, other)

    def test_forty_told_ones(self):
        one = Told.least(Row(0, 1, 0))
        self.assertEqual(len(Rows([one] * 40).told), 40)
        check_raises(self, TooMany("told", 40), Rows, [one] * 41)

    def test_lengths_are_squared(self):
        self.assertEqual(str(NoLonger(B, Ratio(1, 2)).told[0]), "least -1 0 1/4")
        self.assertEqual(str(Longer(B, 2).told[0]), "above 1 0 -4")
        self.assertEqual(worth(NoLonger(ROUND, Ratio(5, 4)).told[0], STEMS[0]), Fraction(9, 16))


if __name__ == "__main__":
    unittest.main()
