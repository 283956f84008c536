"""The nets of a stem, its nearest two, its shortest steps, its spirals; what checks them."""

import itertools
import random
import unittest

from spiralsays.check_stems import shows_nearest, shows_nets
from spiralsays.errors import BadNumber, Round
from spiralsays.nets import Net
from spiralsays.ratios import Ratio
from spiralsays.spirals import family, seen
from spiralsays.stem_nets import by_length, nearest_two, nets_of
from spiralsays.stems import Stem
from spiralsays.steps import Step
from helpers import ANY, check_raises, check_wrong, fraction, is_integer

SIX = Stem(Ratio(5, 14), Ratio(1, 7))
# Three steps are as long: their squares are 1, 1 and 1.
EVEN = Stem(Ratio(1, 2), 1)


def some_stems():
    chance = random.Random(11)
    stems = [SIX, EVEN, Stem(0, 1), Stem(Ratio(1, 2), Ratio(1, 2)), Stem(0, Ratio(1, 16)), Stem(Ratio(1, 2), Ratio(17, 4)), Stem(7, 50)]
    for _ in range(60):
        turn = Ratio(chance.randint(-9, 9), chance.randint(1, 6))
        stems.append(Stem(turn, turn * turn + Ratio(chance.randint(1, 12), chance.randint(1, 60))))
    # Upright sheets of bricks: a product is 0.
    for k, j in ((1, 0), (2, 1), (3, 1), (3, 2)):
        for m, i in ((1, 1), (1, 0), (2, 1), (5, 2)):
            if k * i - m * j in (1, -1):
                turn = Ratio(j, k) * Ratio(1, 2) + Ratio(i, m) * Ratio(1, 2)
                stems.append(Stem(turn, (turn * (k * i + m * j) - j * i).over(k * m)))
    return stems


STEMS = some_stems()


def square(stem, k, j):
    return k * k * fraction(stem.squared) - 2 * k * j * fraction(stem.turn) + j * j


def product(stem, one, other):
    (k, j), (m, i) = one, other
    return k * m * fraction(stem.squared) - (k * i + m * j) * fraction(stem.turn) + j * i


def pair(step):
    return (step.studs, step.rounds)


def boxed(stem, most):
    """All upward steps of a box wide enough for the shortest ones."""
    turn = fraction(stem.turn)
    steps = [(0, j) for j in range(1, most + 1)]
    for k in range(1, 3 * most):
        middle = round(k * turn)
        steps += [(k, j) for j in range(middle - most, middle + most + 1)]
    return steps


def is_net(stem, net):
    low, high, third = [pair(step) for step in net.steps]
    return product(stem, low, high) <= 0 <= min(product(stem, third, low), product(stem, third, high))


def is_brick(stem, net):
    low, high, third = [pair(step) for step in net.steps]
    return 0 in (product(stem, low, high), product(stem, third, low), product(stem, third, high))


def are_nearest(stem, one, other):
    if abs(one[0] * other[1] - other[0] * one[1]) != 1:
        return False
    return square(stem, *one) <= square(stem, *other) and abs(2 * product(stem, one, other)) <= square(stem, *one)


class NetsOfStems(unittest.TestCase):
    def test_nets(self):
        seen_two = 0
        for stem in STEMS:
            found = nets_of(stem)
            self.assertIs(type(found), tuple)
            self.assertTrue(all(is_net(stem, net) for net in found))
            if is_brick(stem, found[0]):
                seen_two += 1
                self.assertEqual(len(found), 2)
                one, other = found
                self.assertNotEqual(one, other)
                self.assertLessEqual((one.level, one.low.rounds if other.level == 0 else 0), (other.level, other.low.rounds))
                self.assertLess((one.level, one.low.rounds), (other.level, other.low.rounds))
            else:
                self.assertEqual(len(found), 1)
        self.assertGreater(seen_two, 8)

    def test_no_other_nets(self):
        numbers = range(-4, 9)
        nets = [
            Net(Step(k, j), Step(m, i)) for k, j, m, i in itertools.product(range(1, 8), numbers, range(0, 8), numbers)
            if k * i - m * j == 1 and (m > 0 or i > 0)
        ]
        for stem in STEMS[:30]:
            found = nets_of(stem)
            for net in nets:
                self.assertIs(net in found, is_net(stem, net))

    def test_strips(self):
        self.assertEqual([str(net) for net in nets_of(Stem(-3, 100))], ["1 -4 0 1", "1 -3 0 1"])
        self.assertEqual([str(net) for net in nets_of(Stem(Ratio(-7, 2), 100))], ["1 -4 0 1"])
        self.assertEqual([str(net) for net in nets_of(Stem(10 ** 50, 10 ** 100 + 1))], [f"1 {10 ** 50 - 1} 0 1", f"1 {10 ** 50} 0 1"])

    def test_great_levels(self):
        great = 10 ** 60
        for stem in (
            Stem(Ratio(1, great), Ratio(1, great ** 2) + Ratio(1, great ** 4)), Stem(Ratio(-1, great), Ratio(1, great ** 2) + Ratio(1, great ** 5)),
            Stem(Ratio(10 ** 59 + 3, 10 ** 61 - 1), 3), Stem(great, Ratio(1, great) + great ** 2),
            Stem(Ratio(2 ** 200, 3 ** 140), Ratio(2 ** 400, 3 ** 280) + Ratio(1, 10 ** 150)),
        ):
            for net in nets_of(stem):
                self.assertTrue(is_net(stem, net))
            self.assertTrue(are_nearest(stem, *[pair(step) for step in nearest_two(stem)]))
        self.assertGreaterEqual(nets_of(Stem(Ratio(1, great), Ratio(1, great ** 2) + Ratio(1, great ** 4)))[0].level, great - 1)

    def test_nearest_two(self):
        for stem in STEMS:
            found = nearest_two(stem)
            self.assertIs(type(found), tuple)
            one, other = found
            self.assertEqual([one.upward, other.upward], [one, other])
            self.assertTrue(are_nearest(stem, pair(one), pair(other)))
            net_steps = [step for net in nets_of(stem) for step in net.steps]
            self.assertTrue(one in net_steps and other in net_steps)
            self.assertEqual(nearest_two(stem), found)

    def test_by_length(self):
        for stem in STEMS[:25]:
            most = max(abs(number) for step in by_length(stem, 12) for number in (step.studs, step.rounds - round(step.studs * fraction(stem.turn))))
            due = sorted((square(stem, *step), *step) for step in boxed(stem, most + 3))[:12]
            self.assertEqual([(square(stem, *pair(step)), *pair(step)) for step in by_length(stem, 12)], due)
            for many in (1, 2, 7):
                self.assertEqual(list(by_length(stem, many)), [Step(k, j) for _, k, j in due[:many]])

    def test_by_length_many(self):
        narrow = Stem(Ratio(1, 3), Ratio(1, 9) + Ratio(1, 10 ** 20))
        self.assertEqual([pair(step) for step in by_length(narrow, 40)], [(3 * many, many) for many in range(1, 41)])
        high = Stem(Ratio(1, 3), 10 ** 20)
        self.assertEqual([pair(step) for step in by_length(high, 40)], [(0, many) for many in range(1, 41)])
        found = by_length(EVEN, 40)
        self.assertEqual(len(found), 40)
        self.assertEqual([pair(step) for step in found[:3]], [(0, 1), (1, 0), (1, 1)])

    def test_wrong(self):
        for call in (nets_of, nearest_two, seen):
            check_wrong(self, call, ("stem", "stem", SIX))
        check_wrong(self, lambda stem: by_length(stem, 3), ("stem", "stem", SIX))
        for value in [one for one in ANY if not is_integer(one)] + [0, -1, 41]:
            check_raises(self, BadNumber("many"), by_length, SIX, value)
            self.assertRaisesRegex(ValueError, "^stem$", by_length, None, value)


class Spirals(unittest.TestCase):
    def test_family(self):
        for k in (1, -1, 3, -5, 8):
            for first, last in ((0, 7), (4, 4), (-9, 3), (10 ** 40, 10 ** 40 + 5)):
                due = tuple(
                    tuple(stud for stud in range(first, last + 1) if (stud - first) % abs(k) == number)
                    for number in range(abs(k))
                )
                self.assertEqual(family(Step(k, 2), first, last), due)

    def test_family_wrong(self):
        step = Step(3, 1)
        check_wrong(self, lambda step, first: family(step, first, 8), ("step", "step", step), ("first", "integer", 1))
        for value in [one for one in ANY if not is_integer(one)] + [-1]:
            check_raises(self, BadNumber("last"), family, step, 0, value)
            check_raises(self, BadNumber("last"), family, Step(0, 1), 0, value)
        check_raises(self, Round("step"), family, Step(0, -2), 0, 5)

    def test_seen(self):
        for stem in STEMS:
            right, left = set(), set()
            for net in nets_of(stem):
                for step in net.steps:
                    lean = step.studs * fraction(stem.turn) - step.rounds
                    if step.studs and lean > 0:
                        right.add(step.studs)
                    if step.studs and lean < 0:
                        left.add(step.studs)
            self.assertEqual(seen(stem), (tuple(sorted(right)), tuple(sorted(left))))


class Checks(unittest.TestCase):
    def test_shows_nets(self):
        for stem in STEMS:
            found = nets_of(stem)
            self.assertIs(shows_nets(stem, found), True)
            self.assertIs(shows_nets(stem, list(reversed(found))), True)
            self.assertIs(shows_nets(stem, found[:1]), len(found) == 1)
            for wrong in ([], (*found, *found), [found[0], found[0]], [*found, found[0].children[0]], [None], [str(found[0])], found[0].children):
                self.assertIs(shows_nets(stem, wrong), False)
            other = Net.first(99)
            self.assertIs(shows_nets(stem, [other]), False)
            self.assertIs(shows_nets(stem, [found[0], other]), False)

    def test_shows_nearest(self):
        numbers = [step for step in itertools.product(range(-3, 4), repeat=2) if step != (0, 0)]
        for stem in STEMS[:20]:
            one, other = nearest_two(stem)
            for pair_of in ((one, other), [one, -other], (-one, other), (-one, -other)):
                self.assertIs(shows_nearest(stem, pair_of), True)
            for first, second in itertools.product(numbers, numbers):
                due = are_nearest(stem, first, second)
                self.assertIs(shows_nearest(stem, (Step(*first), Step(*second))), due)

    def test_six_pairs(self):
        steps = by_length(EVEN, 3)
        self.assertEqual([shows_nearest(EVEN, two) for two in itertools.permutations(steps, 2)], [True] * 6)
        self.assertEqual([shows_nearest(EVEN, (one, one)) for one in steps], [False] * 3)

    def test_other_values(self):
        for value in ANY:
            self.assertIs(shows_nets(SIX, value), False)
            self.assertIs(shows_nearest(SIX, value), False)
            self.assertIs(shows_nearest(SIX, [value, Step(1, 0)]), False)
            self.assertIs(shows_nearest(SIX, [Step(1, 0), value]), value == Step(2, 1))
        self.assertIs(shows_nearest(SIX, [Step(1, 0), Step(2, 1), Step(3, 1)]), False)
        for call in (shows_nets, shows_nearest):
            check_wrong(self, lambda stem: call(stem, None), ("stem", "stem", SIX))


if __name__ == "__main__":
    unittest.main()
