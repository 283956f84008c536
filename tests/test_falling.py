"""The nets met as the rise falls; each one's range of E is looked at on its own."""

import random
import time
import unittest
from fractions import Fraction

from spiralsays.errors import BadNumber, Unlike
from spiralsays.falling import falling, nets_between
from spiralsays.nets import Net
from spiralsays.ratios import Ratio
from spiralsays.roads import is_ahead, net_at, road_at, road_of
from spiralsays.stem_nets import nets_of
from spiralsays.stems import Stem
from helpers import check_raises, check_wrong, fraction, has_net, ratio, up_to
from test_roads import way_of

MILLIARD = 10 ** 9
TURNS = [Ratio(top, bottom) for bottom in range(2, 12) for top in range(-bottom, 2 * bottom)]
BROKEN = [turn for turn in TURNS if not turn.is_whole]


def listed(turn, many):
    return list(falling(turn, many))


class Falling(unittest.TestCase):
    def test_whole_turns(self):
        for turn in (0, 1, -3, Ratio(7), 10 ** 40):
            for many in (1, 2, 60):
                self.assertEqual(listed(turn, many), [(Net.first(Ratio.of(turn).top - 1), None)])

    def test_nets_and_where_they_are_left(self):
        for turn in BROKEN:
            nets, _ = way_of(fraction(turn))
            found = listed(turn, 60)
            self.assertEqual([net for net, _ in found], nets[:60])
            square = fraction(turn) ** 2
            above = None
            for at, (net, squared) in enumerate(found):
                if at == len(nets) - 1:
                    self.assertIsNone(squared)
                    low = square + (above - square) / 1000
                else:
                    self.assertIs(type(squared), Ratio)
                    low = fraction(squared)
                    self.assertGreater(low, square)
                    # At this E there are two nets, this one first.
                    self.assertEqual(nets_of(Stem(turn, squared)), (net, nets[at + 1]))
                high = low + 9 if above is None else above
                self.assertLess(low, high)
                for part in (Fraction(0), Fraction(1, 3), Fraction(99, 100)):
                    stem = Stem(turn, ratio(low + (high - low) * part))
                    self.assertEqual(nets_of(stem)[0], net)
                    self.assertTrue(has_net(stem, net))
                if squared is not None:
                    above = low

    def test_so_many(self):
        for turn in (Ratio(2, 5), Ratio(1, 100), Ratio(-13, 8), 3):
            whole = listed(turn, 60)
            for many in (1, 2, 3, 59):
                self.assertEqual(listed(turn, many), whole[:many])
        self.assertEqual(len(listed(Ratio(1, 100), 60)), 60)
        self.assertEqual(len(listed(Ratio(1, 59), 60)), 59)
        self.assertEqual(len(listed(Ratio(1, 60), 60)), 60)
        self.assertIsNone(listed(Ratio(1, 60), 60)[-1][1])
        self.assertIsNotNone(listed(Ratio(1, 61), 60)[-1][1])

    def test_by_hand(self):
        for turn, due in (
            (Ratio(1, 2), [("1 0 0 1", "1/2"), ("1 0 1 1", None)]),
            (Ratio(-1, 2), [("1 -1 0 1", "1/2"), ("1 -1 1 0", None)]),
            (Ratio(3, 4), [("1 0 0 1", "3/4"), ("1 0 1 1", "5/8"), ("2 1 1 1", "7/12"), ("3 2 1 1", None)]),
        ):
            found = [(str(net), None if squared is None else str(squared)) for net, squared in falling(turn, 60)]
            self.assertEqual(found, due)

    def test_roads(self):
        for turn in BROKEN[::3]:
            roads = [road_at(Stem(turn, squared)) for _, squared in listed(turn, 60) if squared is not None]
            for one, other in zip(roads, roads[1:]):
                self.assertTrue(is_ahead(one, other) and one != other)
            self.assertEqual(net_at(road_of(turn)), listed(turn, 60)[-1][0])

    def test_wrong(self):
        call = lambda turn, many: list(falling(turn, many))
        check_wrong(self, call, ("turn", "ratio", Ratio(2, 5)), ("many", up_to(1, 60), 5))
        for many in (0, 61, -1):
            check_raises(self, BadNumber("many"), call, Ratio(2, 5), many)

    def test_short_time(self):
        begin = time.time()
        for turn in (Ratio(1, MILLIARD), Ratio(10 ** 200 + 1, 10 ** 199 + 7), Ratio(1, 10 ** 300)):
            self.assertEqual(len(listed(turn, 60)), 60)
            square = turn * turn
            self.assertEqual(len(nets_between(turn, square + 1, square + Ratio(1, 10 ** 650), 60)), 60)
            deep = nets_between(turn, square + Ratio(1, 10 ** 600), square + Ratio(1, 10 ** 605), 60)
            self.assertTrue(deep)
        self.assertLess(time.time() - begin, 10)


class NetsBetween(unittest.TestCase):
    def due(self, turn, greater, lesser):
        """All nets of the turn down to the last one, or two hundred, that some E of the stretch has."""
        here, top, low = fraction(turn), fraction(greater), fraction(lesser)
        if here.denominator == 1:
            return [Net.first(int(here) - 1), Net.first(int(here))]
        found = []
        for net in way_of(here, 100)[0]:
            least, most = range_of(net, here)
            if least <= top and (most is None or most >= low):
                found.append(net)
        return found

    def test_all_of_them(self):
        chance = random.Random(1)
        for turn in TURNS:
            square = turn * turn
            for _ in range(4):
                one, other = square + Ratio(1, chance.randint(1, 40)), square + Ratio(chance.randint(1, 3), chance.randint(41, 900))
                if not other.is_below(one):
                    continue
                due = self.due(turn, one, other)
                self.assertEqual(list(nets_between(turn, one, other, 60)), due[:60])
                self.assertEqual(list(nets_between(turn, one, other, 2)), due[:2])
                self.assertEqual(list(nets_between(turn, one, other, 1)), due[:1])

    def test_at_sides(self):
        # At an E where a net is left both nets are met, at either end.
        for turn in BROKEN[::2]:
            pairs = listed(turn, 60)
            left = [squared for _, squared in pairs if squared is not None]
            nets = [net for net, _ in pairs]
            for at, squared in enumerate(left):
                trifle = Ratio(1, 10 ** 9)
                self.assertEqual(nets_between(turn, squared + trifle, squared, 60), (nets[at], nets[at + 1]))
                self.assertEqual(nets_between(turn, squared, squared - trifle, 60), (nets[at], nets[at + 1]))
                self.assertEqual(nets_between(turn, squared + trifle, squared + trifle * Ratio(1, 2), 60), (nets[at],))
                self.assertEqual(nets_between(turn, squared - trifle, squared - trifle * 2, 60), (nets[at + 1],))

    def test_whole_turns(self):
        for most, due in ((1, ["1 -3 0 1"]), (2, ["1 -3 0 1", "1 -2 0 1"]), (60, ["1 -3 0 1", "1 -2 0 1"])):
            self.assertEqual([str(net) for net in nets_between(-2, 9, 5, most)], due)

    def test_wrong(self):
        turn, good = Ratio(2, 5), Ratio(1, 5)
        above = (lambda value: not isinstance(value, bool) and isinstance(value, (int, Ratio)) and (turn * turn).is_below(value), BadNumber)
        check_wrong(self, nets_between, ("turn", "ratio", turn), ("greater", above, 1), ("lesser", above, good), ("most", up_to(1, 60), 5))
        for value in (Ratio(4, 25), 0, -3):
            check_raises(self, BadNumber("greater"), nets_between, turn, value, value, 0)
            check_raises(self, BadNumber("lesser"), nets_between, turn, good, value, 0)
        for most in (0, 61):
            check_raises(self, BadNumber("most"), nets_between, turn, good, 1, most)
        check_raises(self, Unlike("squared"), nets_between, turn, good, 1, 5)
        check_raises(self, Unlike("squared"), nets_between, turn, good, good, 5)
        check_raises(self, Unlike("squared"), nets_between, 0, Ratio(1), 1, 5)

    def test_kind(self):
        self.assertIs(type(nets_between(Ratio(2, 5), 1, Ratio(1, 5), 9)), tuple)


def range_of(net, turn):
    """The least and the greatest E with which a post of this turn has a net, None without end."""
    square = turn * turn
    least, most = square, None
    low, high = net.low, net.high
    third = low + high
    for one, other, sign in ((low, high, -1), (low, third, 1), (high, third, 1)):
        a = sign * one.studs * other.studs
        rest = sign * (one.rounds * other.rounds - (one.studs * other.rounds + other.studs * one.rounds) * turn)
        if a > 0:
            least = max(least, -rest / a)
        elif a < 0:
            most = rest / -a if most is None else min(most, rest / -a)
    return least, most


if __name__ == "__main__":
    unittest.main()
