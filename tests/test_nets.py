"""Nets: three steps, their level, and the nets beside them."""

import itertools
import unittest

from spiralsays.errors import BadNet, NotNeighbours
from spiralsays.nets import Net
from spiralsays.ratios import Ratio
from spiralsays.stems import Stem
from spiralsays.steps import Step
from helpers import ANY, check_raises, check_wrong, fraction

NUMBERS = range(-4, 6)
NETS = [
    Net(Step(k, j), Step(m, i)) for k, j, m, i in itertools.product(range(1, 6), NUMBERS, range(0, 6), NUMBERS)
    if k * i - m * j == 1 and (m > 0 or i > 0)
]


def above(net):
    """The net above, as the document tells it, as numbers."""
    (k, j), (m, i) = (net.low.studs, net.low.rounds), (net.high.studs, net.high.rounds)
    if m == 0:
        return None
    return ((k, j), (m - k, i - j)) if k <= m else ((k - m, j - i), (m, i))


def numbers(net):
    return ((net.low.studs, net.low.rounds), (net.high.studs, net.high.rounds))


class Nets(unittest.TestCase):
    def test_made(self):
        check_wrong(self, Net, ("low", "step", Step(1, 0)), ("high", "step", Step(0, 1)))
        one, high = Step(1, 0), Step(0, 1)
        for low in (Step(-1, 0), Step(0, 1), Step(0, -1), Step(-3, 5)):
            check_raises(self, BadNet("low"), Net, low, high)
            check_raises(self, BadNet("low"), Net, low, Step(-1, 1))
        for wrong in (Step(-1, 1), Step(0, -1)):
            check_raises(self, BadNet("high"), Net, one, wrong)
        for low, wrong in ((one, one), (Step(2, 1), Step(1, 0)), (Step(1, 1), Step(1, 0)), (Step(2, 0), Step(0, 1)), (one, Step(0, 2))):
            check_raises(self, NotNeighbours(low, wrong), Net, low, wrong)
        # A value that is no step comes ahead of a step that does not do.
        for value in ANY:
            if not isinstance(value, Step):
                self.assertRaisesRegex(ValueError, "^high$", Net, Step(-1, 0), value)

    def test_steps(self):
        for net in NETS:
            self.assertEqual(net.third, net.low + net.high)
            self.assertIs(type(net.steps), tuple)
            self.assertEqual(list(net.steps), [net.low, net.high, net.third])

    def test_levels_and_nets_above(self):
        for net in NETS:
            level, pair = 0, above(net)
            if pair is None:
                self.assertIsNone(net.parent)
            else:
                self.assertEqual(numbers(net.parent), pair)
            at = net
            while at.parent is not None:
                level, at = level + 1, at.parent
                self.assertTrue(at in at.children[0].beside or at == at.children[0].parent)
            self.assertEqual(net.level, level)

    def test_nets_below_and_beside(self):
        for net in NETS:
            pairs = [(net.low, net.third), (net.third, net.high)]
            if net.high.is_round:
                pairs = pairs[:1]
            self.assertIs(type(net.children), tuple)
            self.assertEqual([(one.low, one.high) for one in net.children], pairs)
            for one in net.children:
                self.assertEqual(one.parent, net)
                self.assertEqual(one.level, net.level + 1)
            self.assertIs(type(net.beside), tuple)
            self.assertEqual(len(net.beside), 3)
            if net.high.is_round:
                whole = net.low.rounds
                self.assertEqual(list(net.beside), [Net.first(whole - 1), Net.first(whole + 1), *net.children])
            else:
                self.assertEqual(list(net.beside), [net.parent, *net.children])
            self.assertTrue(all(net in one.beside for one in net.beside))

    def test_great_levels(self):
        great = 10 ** 300
        self.assertEqual(Net(Step(1, 0), Step(great, 1)).level, great)
        self.assertEqual(Net(Step(great, -1), Step(1, 0)).level, great)
        self.assertEqual(Net(Step(great, -1), Step(great + 1, -1)).level, great + 1)
        self.assertEqual(Net(Step(1, great), Step(0, 1)).level, 0)
        one, other, level = Step(1, 0), Step(1, 1), 1
        for _ in range(200):
            net = Net(one, other)
            self.assertEqual(net.level, level)
            one, level = one + other, level + 1
            self.assertEqual(Net(one, other).level, level)
            other, level = one + other, level + 1

    def test_first(self):
        for whole in (-3, 0, 7, 10 ** 80):
            self.assertEqual(str(Net.first(whole)), f"1 {whole} 0 1")
        check_wrong(self, Net.first, ("whole", "integer", 1))

    def test_holds(self):
        stems = [Stem(Ratio(5, 14), Ratio(1, 7)), Stem(0, 1), Stem(Ratio(1, 2), Ratio(1, 2)), Stem(Ratio(-7, 5), 2), Stem(0, Ratio(1, 16))]
        for stem in stems:
            turn, squared = fraction(stem.turn), fraction(stem.squared)
            for net in NETS:
                (k, j), (m, i) = numbers(net)
                (p, q) = (k + m, j + i)

                def product(one, other):
                    return one[0] * other[0] * squared - (one[0] * other[1] + other[0] * one[1]) * turn + one[1] * other[1]

                due = product((k, j), (m, i)) <= 0 and product((p, q), (k, j)) >= 0 and product((p, q), (m, i)) >= 0
                self.assertIs(net.holds(stem), due)
        check_wrong(self, NETS[0].holds, ("stem", "stem", Stem(0, 1)))

    def test_equal(self):
        for one, other in itertools.product(NETS, NETS[::9]):
            self.assertIs(one == other, numbers(one) == numbers(other))
        for value in ANY:
            if not isinstance(value, Net):
                self.assertFalse(NETS[0] == value)

    def test_texts(self):
        for net in NETS:
            self.assertEqual(str(net), f"{net.low.studs} {net.low.rounds} {net.high.studs} {net.high.rounds}")
            self.assertEqual(Net.read(str(net)), net)


if __name__ == "__main__":
    unittest.main()
