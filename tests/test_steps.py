"""Steps and pairs of steps."""

import itertools
import math
import unittest

from spiralsays.errors import BadNumber, BadStep, Common, NotNeighbours, Round
from spiralsays.pairs import are_neighbours, between, cross, mate
from spiralsays.ratios import Ratio
from spiralsays.steps import Step
from helpers import ANY, check_raises, check_wrong

SMALL = [Step(k, j) for k, j in itertools.product(range(-4, 5), repeat=2) if (k, j) != (0, 0)]


class Steps(unittest.TestCase):
    def test_made(self):
        for step in SMALL:
            self.assertEqual(step.divisor, math.gcd(step.studs, step.rounds))
            self.assertIs(step.is_round, step.studs == 0)
        check_wrong(self, Step, ("studs", "step integer", 1), ("rounds", "step integer", 1))
        check_raises(self, BadStep("step"), Step, 0, 0)
        great = Step(10 ** 90, -6)
        self.assertEqual((great.studs, great.rounds, great.divisor), (10 ** 90, -6, 2))
        self.assertEqual(Step(studs=1, rounds=2), Step(1, 2))

    def test_upward(self):
        for step in SMALL:
            both = [(step.studs, step.rounds), (-step.studs, -step.rounds)]
            due = [(k, j) for k, j in both if k > 0 or (k == 0 and j > 0)]
            self.assertEqual([(step.upward.studs, step.upward.rounds)], due)

    def test_corner(self):
        self.assertEqual([Step(-3, -1).corner, Step(2, -4).corner, Step(-2, 0).corner], [Ratio(1, 3), -2, 0])
        self.assertIsInstance(Step(1, 2).corner, Ratio)
        for step in (Step.one_round(), Step(0, -3)):
            check_raises(self, Round("step"), lambda: step.corner)

    def test_one_round(self):
        self.assertEqual(str(Step.one_round()), "0 1")

    def test_sums(self):
        for one, other in itertools.product(SMALL, SMALL[::5]):
            for call, due in (
                (lambda: one + other, (one.studs + other.studs, one.rounds + other.rounds)),
                (lambda: one - other, (one.studs - other.studs, one.rounds - other.rounds)),
            ):
                if due == (0, 0):
                    check_raises(self, BadStep("sum"), call)
                else:
                    self.assertEqual((call().studs, call().rounds), due)
            self.assertEqual(str(-one), f"{-one.studs} {-one.rounds}")
        check_wrong(self, lambda other: SMALL[0] + other, ("other", "step", Step(7, 7)))
        check_wrong(self, lambda other: SMALL[0] - other, ("other", "step", Step(7, 7)))

    def test_times(self):
        for times in (1, -1, 3, -10 ** 70):
            self.assertEqual(Step(2, -3) * times, Step(2 * times, -3 * times))
        check_wrong(self, lambda times: Step(2, 1) * times, ("times", "times", 1))
        check_raises(self, BadNumber("times"), lambda: Step(2, 1) * Ratio(2))

    def test_equal(self):
        for one, other in itertools.product(SMALL, SMALL):
            self.assertIs(one == other, (one.studs, one.rounds) == (other.studs, other.rounds))
        for value in ANY:
            if not isinstance(value, Step):
                self.assertFalse(Step(1, 0) == value)


class Pairs(unittest.TestCase):
    def test_cross(self):
        for one, other in itertools.product(SMALL, SMALL):
            due = one.studs * other.rounds - other.studs * one.rounds
            self.assertEqual(cross(one, other), due)
            self.assertEqual(cross(other, one), -due)
            self.assertIs(are_neighbours(one, other), due in (1, -1))

    def test_between(self):
        for one, other in itertools.product(SMALL, SMALL):
            if abs(one.studs * other.rounds - other.studs * one.rounds) == 1:
                self.assertEqual(between(one, other), one + other)
                self.assertTrue(are_neighbours(between(one, other), one))
            else:
                check_raises(self, NotNeighbours(one, other), between, one, other)

    def test_mate(self):
        order = sorted(range(-9, 10), key=lambda number: (abs(number), number < 0))
        for step in SMALL:
            if step.divisor > 1:
                check_raises(self, Common(step.divisor), mate, step)
                continue
            due = next((k, j) for k in order for j in order if k * step.rounds - step.studs * j == 1)
            found = mate(step)
            self.assertEqual((found.studs, found.rounds), due, str(step))

    def test_mate_of_great_steps(self):
        for step in (Step(10 ** 200 + 1, 10 ** 199), Step(-(2 ** 500), 3 ** 300), Step(7 ** 400, -(2 ** 1000)), Step(1, 10 ** 90)):
            found = mate(step)
            self.assertEqual(cross(found, step), 1)
            self.assertLessEqual(2 * abs(found.studs), abs(step.studs))

    def test_two_mates_as_far(self):
        self.assertEqual([str(mate(Step(2, 1))), str(mate(Step(-2, 1))), str(mate(Step(2, 3)))], ["1 0", "1 0", "1 1"])

    def test_wrong(self):
        good = Step(1, 0)
        for call in (cross, are_neighbours, between):
            check_wrong(self, call, ("one", "step", good), ("other", "step", Step(0, 1)))
        check_wrong(self, mate, ("step", "step", good))


if __name__ == "__main__":
    unittest.main()
