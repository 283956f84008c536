"""Roads of all four kinds, letter by letter where they are short, and with runs of a milliard."""

import itertools
import random
import time
import unittest
from fractions import Fraction

from spiralsays.errors import BadRoad, TooMany
from spiralsays.fractions import runs_of
from spiralsays.nets import Net
from spiralsays.ratios import Ratio
from spiralsays.roads import Road, common, is_ahead, net_at, road_at, road_of, turns_of
from spiralsays.stem_nets import nets_of
from spiralsays.stems import Stem
from helpers import ANY, check_raises, check_wrong, fraction

MILLIARD = 10 ** 9
RUNS = [(), (1,), (2,), (3,), (0, 1), (0, 2), (1, 1), (2, 1), (1, 2), (0, 1, 1), (1, 1, 1), (0, 2, 1), (2, 1, 3), (1, 1, 1, 1), (0, 3, 2, 1)]
ROADS = [Road(whole, (), kind) for whole in (0, -2) for kind in ("edge", "first")]
ROADS += [Road(whole, runs, kind) for whole in (0, -2) for runs in RUNS for kind in ("open", "ended")]


def letters(runs):
    return "".join("LR"[at % 2] * run for at, run in enumerate(runs))


def runs(word):
    found = [] if word == "" or word[0] == "L" else [0]
    return tuple(found + [len(list(group)) for _, group in itertools.groupby(word)])


def walked(whole, word):
    """The net to which letters lead, one by one."""
    net = Net.first(whole).children[0]
    for letter in word:
        net = net.children["LR".index(letter)]
    return net


def corner(step):
    return fraction(step.corner)


def way_of(turn, most=200):
    """The nets of a turn that is no whole number, from the top down to the last one, and the letters."""
    net, word = Net.first(int(turn // 1)), ""
    nets = [net]
    net = net.children[0]
    while True:
        nets.append(net)
        if corner(net.third) == turn or len(nets) > most:
            return nets, word
        letter = "L" if turn < corner(net.third) else "R"
        word += letter
        net = net.children["LR".index(letter)]


class Roads(unittest.TestCase):
    def test_attributes(self):
        for road in ROADS:
            self.assertEqual(road.letters, len(letters(road.runs)))
            self.assertIs(type(road.runs), tuple)
            self.assertEqual(str(road), " ".join([str(road.whole), road.kind, *map(str, road.runs)]))
            self.assertEqual(Road(whole=road.whole, runs=list(road.runs), kind=road.kind), road)
            self.assertEqual(Road.read(str(road)), road)
            for other in ROADS:
                self.assertIs(road == other, str(road) == str(other))
            for value in ANY:
                if not isinstance(value, Road):
                    self.assertIs(road == value, False)

    def test_wrong(self):
        whole = (lambda value: type(value) is int, BadRoad)
        check_wrong(self, Road, ("whole", whole, 0), ("runs", (lambda value: value in ([], (), [1], (1, 2)), BadRoad), [1]), ("kind", (lambda value: False, BadRoad), "open"))
        for wrong in ([0], [-1], [1, 0], [0, 0], [1, -1], [0, 1, 0], [-1, 1], [-2, 3, 1], [1, True], [True], [Ratio(1)], ["1"], [[1]], "11", (1, None), {1: 1}):
            for kind in ("open", "edge", None):
                check_raises(self, BadRoad("runs"), Road, 0, wrong, kind)
        for kind in ("edge", "first"):
            check_raises(self, BadRoad("kind"), Road, 0, [1], kind)
            check_raises(self, BadRoad("kind"), Road, 0, [1] * 61, kind)
        for kind in ("Open", "", "opened", None, 1, ["open"], True):
            check_raises(self, BadRoad("kind"), Road, 0, [1], kind)
            check_raises(self, BadRoad("kind"), Road, 0, [1] * 61, kind)

    def test_sixty_runs(self):
        for kind in ("open", "ended"):
            self.assertEqual(len(Road(0, [0] + [1] * 59, kind).runs), 60)
            check_raises(self, TooMany("runs", 60), Road, 0, [0] + [1] * 60, kind)
            check_raises(self, TooMany("runs", 60), Road, 0, [1] * 61, kind)

    def test_nets_and_turns(self):
        for road in ROADS:
            net, turns = net_at(road), turns_of(road)
            self.assertTrue(all(type(turn) is Ratio for turn in turns))
            low, high = map(fraction, turns)
            if road.kind == "edge":
                self.assertEqual((net, low, high), (Net.first(road.whole - 1), road.whole, road.whole))
            elif road.kind == "first":
                self.assertEqual((net, low, high), (Net.first(road.whole), road.whole, road.whole + 1))
            else:
                due = walked(road.whole, letters(road.runs))
                self.assertEqual(net, due)
                self.assertEqual((low, high), (corner(due.low), corner(due.high)) if road.kind == "open" else (corner(due.third),) * 2)

    def test_road_of(self):
        for bottom in range(1, 16):
            for top in range(-2 * bottom, 2 * bottom + 1):
                turn = Fraction(top, bottom)
                road = road_of(Ratio(top, bottom))
                if turn.denominator == 1:
                    self.assertEqual(road, Road(int(turn), (), "edge"))
                    continue
                nets, word = way_of(turn)
                self.assertEqual(road, Road(int(turn // 1), runs(word), "ended"))
                self.assertEqual(net_at(road), nets[-1])
                self.assertEqual(turns_of(road), (Ratio(top, bottom),) * 2)
                self.assertEqual(road.runs, runs_of(Ratio(top, bottom)))
        self.assertEqual(road_of(-4), Road(-4, (), "edge"))
        check_wrong(self, road_of, ("ratio", "ratio", 1))

    def test_road_at(self):
        chance = random.Random(2)
        for _ in range(300):
            turn = Ratio(chance.randint(-12, 12), chance.randint(1, 9))
            stem = Stem(turn, turn * turn + Ratio(1, chance.choice([1, 2, 4, 9, 30, 100, 400, 1000])))
            road, first = road_at(stem), nets_of(stem)[0]
            if turn.is_whole:
                self.assertEqual(road, Road(turn.top, (), "edge"))
                continue
            nets, word = way_of(fraction(turn))
            self.assertEqual(net_at(road), first)
            self.assertEqual(road.kind, "first" if first.high.is_round else "open")
            if road.kind == "open":
                self.assertTrue(word.startswith(letters(road.runs)))
            # At a lesser rise the road is this one or a longer one.
            self.assertTrue(is_ahead(road, road_at(Stem(turn, turn * turn + stem.rise * Ratio(1, 7)))))
            self.assertTrue(is_ahead(road, road_of(turn)))
        check_wrong(self, road_at, ("stem", "stem", Stem(0, 1)))

    def test_at_sides(self):
        # Where a stem has two nets the first one tells.
        for stem, due in (
            (Stem(Ratio(2, 5), Ratio(1, 5)), "0 open"), (Stem(Ratio(2, 5), Ratio(2, 5)), "0 first"), (Stem(Ratio(2, 5), Ratio(1, 6)), "0 open 1"),
            (Stem(Ratio(2, 5), Ratio(33, 200)), "0 open 1 1"), (Stem(Ratio(1, 2), Ratio(1, 2)), "0 first"), (Stem(Ratio(1, 2), Ratio(3, 10)), "0 open"),
            (Stem(-3, 10), "-3 edge"), (Stem(-3, 109), "-3 edge"), (Stem(Ratio(-1, 2), Ratio(27, 100)), "-1 open"),
        ):
            self.assertEqual(str(road_at(stem)), due)

    def test_is_ahead(self):
        for one in ROADS:
            for other in ROADS:
                due = one == other
                if one.whole == other.whole and one.kind == "first":
                    due = other.kind in ("first", "open", "ended")
                if one.whole == other.whole and one.kind == "open" and other.kind in ("open", "ended"):
                    due = letters(other.runs).startswith(letters(one.runs))
                self.assertIs(is_ahead(one, other), due, (str(one), str(other)))

    def test_common(self):
        order = ["first", "open", "ended"]
        for one in ROADS:
            for other in ROADS:
                ahead = [road for road in ROADS if is_ahead(road, one) and is_ahead(road, other)]
                words = [letters(road.runs) for road in (one, other)]
                if one.whole == other.whole and one.kind != "edge" and other.kind != "edge" and "first" not in (one.kind, other.kind):
                    # Not all ways are among the roads of this test.
                    shared = "".join(a for a, _ in itertools.takewhile(lambda pair: pair[0] == pair[1], zip(*words)))
                    ahead.append(Road(one.whole, runs(shared), "open"))
                found = common(one, other)
                if not ahead:
                    self.assertIsNone(found)
                elif "edge" in (one.kind, other.kind):
                    self.assertEqual(found, one)
                else:
                    self.assertEqual(found, max(ahead, key=lambda road: (order.index(road.kind), road.letters)), (str(one), str(other)))
                self.assertEqual(common(other, one), found)

    def test_wrong_roads(self):
        for call in (net_at, turns_of):
            check_wrong(self, call, ("road", "road", ROADS[0]))
        for call in (is_ahead, common):
            check_wrong(self, call, ("one", "road", ROADS[0]), ("other", "road", ROADS[1]))

    def test_long_runs(self):
        begin = time.time()
        road = Road(5, [MILLIARD, 3, MILLIARD], "open")
        self.assertEqual(road.letters, 2 * MILLIARD + 3)
        net = net_at(road)
        self.assertEqual(net.level, road.letters + 1)
        low, high = turns_of(road)
        self.assertEqual((low, high), (net.low.corner, net.high.corner))
        self.assertEqual(road_of(net.third.corner), Road(5, road.runs, "ended"))
        self.assertEqual(net_at(Road(0, [MILLIARD], "ended")), Net.read(f"1 0 {MILLIARD + 1} 1"))
        self.assertEqual(str(road_of(Ratio(1, MILLIARD))), f"0 ended {MILLIARD - 2}")
        self.assertTrue(is_ahead(Road(5, [MILLIARD, 3, MILLIARD - 1], "open"), road))
        self.assertFalse(is_ahead(Road(5, [MILLIARD, 3, MILLIARD + 1], "open"), road))
        self.assertFalse(is_ahead(Road(5, [MILLIARD - 1, 3], "open"), road))
        self.assertEqual(common(road, Road(5, [MILLIARD, 2, 1], "ended")), Road(5, [MILLIARD, 2], "open"))
        self.assertEqual(common(road, Road(5, [MILLIARD + 1], "ended")), Road(5, [MILLIARD], "open"))
        self.assertEqual(common(road, Road(5, [0, 7], "ended")), Road(5, [], "open"))
        many = Road(0, [MILLIARD] * 60, "ended")
        self.assertEqual(road_of(turns_of(many)[0]), many)
        self.assertEqual(str(road_at(Stem(Ratio(1, MILLIARD), Ratio(1, MILLIARD ** 2) + Ratio(1, MILLIARD ** 4)))), f"0 open {MILLIARD - 2}")
        self.assertLess(time.time() - begin, 5)

    def test_too_many_runs_of_a_turn(self):
        one, other = 1, 1
        for many in range(2, 70):
            one, other = other, one + other
            expected = len(runs_of(Ratio(one, other)))
            if expected > 60:
                check_raises(self, TooMany("runs", 60), road_of, Ratio(one, other))
                stem = Stem(Ratio(one, other), Ratio(one, other) * Ratio(one, other) + Ratio(1, 10 ** 60))
                check_raises(self, TooMany("runs", 60), road_at, stem)
            else:
                self.assertEqual(len(road_of(Ratio(one, other)).runs), expected)
        self.assertGreater(expected, 60)


if __name__ == "__main__":
    unittest.main()
