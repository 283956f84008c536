"""Windows, counted things, their cuts and stretches, beside a search over all rounds."""

import random
import unittest
from fractions import Fraction

from spiralsays.counted import Counted, NearerStud, OneWay, RightLeft, SeenBoth
from spiralsays.cuts import Stretch, cuts, stretches
from spiralsays.errors import BadCounted, BadWindow, Common, TooMany
from spiralsays.ratios import Ratio
from spiralsays.rows import Row, Told
from spiralsays.sayings import TurnAtLeast, TurnAtMost, TurnIs
from spiralsays.stem_nets import nets_of
from spiralsays.stems import Stem
from spiralsays.windows import Window
from counted_by_hand import THINGS, WINDOWS, cuts_by_hand, holds, some_stems
from helpers import ANY, check_raises, check_wrong, fraction, keeps, ratio


def turns_of_thing(thing, low, high):
    """The cuts of a thing, what lies between them and a little beside them."""
    places = [low, *cuts_by_hand([thing], low, high), high]
    found = list(places)
    for one, other in zip(places, places[1:]):
        found += [(one + other) / 2, one + (other - one) / 1000, other - (other - one) / 1000]
    return found


class Windows(unittest.TestCase):
    def test_windows(self):
        for window in WINDOWS:
            self.assertIs(type(window.low), Ratio)
            self.assertIs(type(window.high), Ratio)
            self.assertEqual(window.told, TurnAtLeast(window.low).told + TurnAtMost(window.high).told)
            self.assertEqual(str(window), f"{window.low} {window.high}")
            self.assertEqual(Window.read(str(window)), window)
            for other in WINDOWS:
                self.assertIs(window == other, str(window) == str(other))
                for turn in (other.low, other.high, other.low - Ratio(1, 10 ** 9), other.high + Ratio(1, 10 ** 9)):
                    inside = fraction(window.low) <= fraction(turn) <= fraction(window.high)
                    self.assertIs(Stem(turn, turn * turn + 1) in window, inside)
        for value in ANY:
            self.assertIs(value in Window(0, 1), isinstance(value, Stem))
            if not isinstance(value, Window):
                self.assertIs(Window(0, 1) == value, False)
        self.assertEqual(Window(low=0, high=Ratio(1)), Window(Ratio(0), 1))

    def test_wrong_windows(self):
        check_wrong(self, Window, ("low", "window ratio", 0), ("high", "window ratio", Ratio(1, 2)))
        for low, high in ((0, 0), (0, -1), (Ratio(1, 2), Ratio(1, 3)), (0, Ratio(1001, 1000)), (0, 2), (-3, 0)):
            check_raises(self, BadWindow("window"), Window, low, high)
        self.assertEqual(str(Window(Ratio(-1, 3), Ratio(2, 3))), "-1/3 2/3")


class Things(unittest.TestCase):
    def test_holds(self):
        held = {}
        for thing in THINGS:
            for low in (Fraction(0), Fraction(-5, 3)):
                turns = turns_of_thing(thing, low, low + 1)
                for stem in some_stems(turns if len(turns) < 40 else turns[::len(turns) // 30]):
                    due = holds(thing, stem)
                    self.assertIs(thing.holds(stem), due, (str(thing), str(stem)))
                    held[str(thing), due] = True
        for thing in THINGS:
            self.assertIn((str(thing), False), held)
            if str(thing) not in ("nearerstud 21 20",):
                self.assertIn((str(thing), True), held)

    def test_seen_both_is_of_nets(self):
        chance = random.Random(7)
        turns = [Fraction(chance.randint(-30, 60), chance.randint(1, 30)) for _ in range(60)]
        for stem in some_stems(turns):
            nets = nets_of(stem)
            for right, left in ((1, 1), (1, 2), (2, 1), (3, 2), (2, 3), (3, 1), (5, 3), (5, 8), (1, 4), (7, 4)):
                due = False
                for net in nets:
                    studs = [(step.studs, stem.lean(step).sign) for step in net.steps if step.studs > 0]
                    due = due or ((right, 1) in studs and (left, -1) in studs)
                self.assertIs(SeenBoth(right, left).holds(stem), due, (right, left, str(stem)))

    def test_attributes(self):
        for thing in THINGS:
            self.assertEqual(type(thing).__bases__, (Counted,))
            self.assertEqual(Counted.read(str(thing)), thing)
            self.assertEqual(OneWay.read(str(thing)), thing)
            for other in THINGS:
                self.assertIs(thing == other, str(thing) == str(other))
            for value in (None, str(thing), 1, (8, 5)):
                self.assertIs(thing == value, False)
        self.assertEqual([str(RightLeft(right=8, left=5)), str(SeenBoth(right=8, left=5)), str(OneWay(studs=3, side="right")), str(NearerStud(one=2, other=21))],
                         ["rightleft 8 5", "seenboth 8 5", "oneway 3 right", "nearerstud 2 21"])
        self.assertEqual((RightLeft(8, 5).right, RightLeft(8, 5).left, SeenBoth(8, 5).right, SeenBoth(8, 5).left), (8, 5, 8, 5))
        self.assertEqual((OneWay(3, "left").studs, OneWay(3, "left").side, NearerStud(2, 1).one, NearerStud(2, 1).other), (3, "left", 2, 1))

    def test_wrong(self):
        for kind in (RightLeft, SeenBoth):
            check_wrong(self, kind, ("right", "count", 8), ("left", "count", 5))
            for value in (0, 22, -1):
                check_raises(self, BadCounted("right"), kind, value, 22)
                check_raises(self, BadCounted("left"), kind, 4, value)
            for right, left, divisor in ((2, 2, 2), (6, 4, 2), (21, 21, 21), (12, 18, 6), (21, 14, 7)):
                check_raises(self, Common(divisor), kind, right, left)
            self.assertEqual(kind(1, 1).left, 1)
            self.assertEqual(kind(21, 20).right, 21)
        check_wrong(self, OneWay, ("studs", "count", 8), ("side", (lambda value: value in ("right", "left"), BadCounted), "left"))
        for side in ("Right", "", "up", ["right"], "left "):
            check_raises(self, BadCounted("side"), OneWay, 3, side)
        check_wrong(self, NearerStud, ("one", "count", 8), ("other", (lambda value: type(value) is int and value != 8 and 1 <= value <= 21, BadCounted), 5))
        for value in (0, 22, 8, 10 ** 20):
            check_raises(self, BadCounted("other"), NearerStud, 8, value)
        for thing in THINGS:
            check_wrong(self, thing.holds, ("stem", "stem", Stem(0, 1)))


class Stretches(unittest.TestCase):
    def test_cuts(self):
        chance = random.Random(9)
        for window in WINDOWS:
            low, high = fraction(window.low), fraction(window.high)
            for thing in THINGS:
                self.assertEqual([fraction(cut) for cut in cuts([thing], window)], cuts_by_hand([thing], low, high), (str(thing), str(window)))
            for _ in range(6):
                things = [chance.choice(THINGS) for _ in range(chance.randint(2, 6))]
                found = cuts(things, window)
                self.assertIs(type(found), tuple)
                self.assertEqual([fraction(cut) for cut in found], cuts_by_hand(things, low, high))
                self.assertTrue(all(type(cut) is Ratio for cut in found))
        self.assertEqual(cuts([], Window(0, 1)), ())
        self.assertEqual(cuts((), Window(0, 1)), ())

    def check_stretches(self, things, window):
        """At stems in each stretch and at its ends all things hold just if they keep its piece."""
        found = stretches(things, window)
        low, high = fraction(window.low), fraction(window.high)
        ends = [low, *cuts_by_hand(things, low, high), high]
        self.assertEqual([(fraction(one.low), fraction(one.high)) for one in found], list(zip(ends, ends[1:])))
        for one in found:
            self.assertIs(type(one), Stretch)
            self.assertIs(type(one.pieces), tuple)
            self.assertLessEqual(len(one.pieces), 1)
            self.assertEqual(one.cases, tuple(piece + TurnAtLeast(one.low).told + TurnAtMost(one.high).told for piece in one.pieces))
        if len(found) > 12:
            found = found[::len(found) // 12]
        for one in found:
            low, high = fraction(one.low), fraction(one.high)
            for stem in some_stems([low, (low * 2 + high) / 3, (low + high) / 2, high]):
                due = all(holds(thing, stem) for thing in things)
                kept = len(one.pieces) == 1 and keeps(stem, one.pieces[0])
                self.assertIs(kept, due, (list(map(str, things)), str(stem), one.low, one.high))

    def test_pieces_of_one_thing(self):
        for window in WINDOWS:
            for thing in THINGS:
                self.check_stretches([thing], window)

    def test_pieces_of_some(self):
        chance = random.Random(10)
        for window in WINDOWS:
            for _ in range(12):
                self.check_stretches([chance.choice(THINGS[:30]) for _ in range(chance.randint(2, 4))], window)

    def test_pieces_by_hand(self):
        unit = Window(0, 1)
        for things, pieces in (
            ([RightLeft(8, 5)], [None, ["above 0 1 -3/8", "above 0 -1 2/5"], None]),
            ([RightLeft(1, 1)], [["above 0 1 0", "above 0 -1 1"]]),
            ([SeenBoth(1, 1)], [["above 0 1 0", "above 0 -1 1", "least 0 1 0", "least 2 -1 0", "least 0 -1 1", "least 2 -3 1"]]),
            ([OneWay(1, "right")], [["above 0 1 0"], ["zero 0 1 -1/2"]]), ([OneWay(1, "left")], [["zero 0 1 -1/2"], ["above 0 -1 1"]]),
            ([OneWay(2, "right")], [None, None, ["above 0 1 -1/2"], ["zero 0 1 -3/4"]]), ([OneWay(2, "left")], [["zero 0 1 -1/4"], ["above 0 -1 1/2"], None, None]),
            ([NearerStud(1, 2)], [["above 3 0 0"], ["above 3 -4 1"], ["above 3 -2 0"], ["above 3 -6 3"]]),
            ([], [[]]), ([OneWay(1, "right"), OneWay(1, "right")], [["above 0 1 0"] * 2, ["zero 0 1 -1/2"] * 2]),
            ([OneWay(1, "right"), RightLeft(1, 1)], [["above 0 1 0", "above 0 1 0", "above 0 -1 1"], ["zero 0 1 -1/2", "above 0 1 0", "above 0 -1 1"]]),
        ):
            found = stretches(things, unit)
            self.assertEqual([[str(told) for told in one.pieces[0]] if one.pieces else None for one in found], pieces)

    def test_ends_at_ties(self):
        # A window that begins at a tie, or a little behind one; that ends at one, or a little ahead.
        right, left = OneWay(3, "right"), OneWay(3, "left")
        for low, high, thing, due in (
            (Ratio(1, 2), Ratio(2, 3), right, TurnIs(Ratio(1, 2)).told), (Ratio(1, 2) + Ratio(1, 10 ** 9), Ratio(2, 3), right, None),
            (Ratio(1, 3), Ratio(1, 2), left, TurnIs(Ratio(1, 2)).told), (Ratio(1, 3), Ratio(1, 2) - Ratio(1, 10 ** 9), left, None),
            (Ratio(5, 6), 1, right, TurnIs(Ratio(5, 6)).told), (Ratio(1, 6), Ratio(1, 3), right, None), (0, Ratio(1, 6), left, TurnIs(Ratio(1, 6)).told),
            (Ratio(2, 3), Ratio(5, 6), left, None), (Ratio(1, 3), Ratio(2, 5), left, None), (Ratio(2, 5), Ratio(1, 2), right, (Told.above(Row(0, 1, Ratio(-1, 3))),)),
        ):
            (one,) = stretches([thing], Window(low, high))
            self.assertEqual(one.pieces, () if due is None else (due,), (low, high, str(thing)))

    def test_many_cuts(self):
        hundred = [OneWay(21, "right"), OneWay(20, "left")]
        window = Window(0, 1)
        # They have 1/2 in common.
        self.assertEqual(len(cuts(hundred, window)), 79)
        more = hundred + [NearerStud(21, 19)]
        for things in (more, more + [OneWay(11, "left")], more + [NearerStud(10, 9), NearerStud(9, 7)], hundred * 3):
            due = len(cuts_by_hand(things, Fraction(0), Fraction(1)))
            self.assertEqual(len(cuts(things, window)), due)
            if due > 100:
                check_raises(self, TooMany("cuts", 100), stretches, things, window)
            else:
                self.assertEqual(len(stretches(things, window)), due + 1)
        # Windows with just a hundred cuts and with one more.
        things = [OneWay(21, "right"), OneWay(20, "right"), OneWay(19, "right")]
        places = cuts_by_hand(things, Fraction(0), Fraction(1))
        self.assertGreater(len(places), 102)
        self.assertEqual(len(stretches(things, Window(0, ratio(places[100])))), 101)
        check_raises(self, TooMany("cuts", 100), stretches, things, Window(0, ratio(places[101])))
        self.assertEqual(len(cuts(things, Window(0, ratio(places[101])))), 101)

    def test_wrong(self):
        for call in (cuts, stretches):
            check_wrong(self, call, ("things", "things", THINGS[:2]), ("window", "window", WINDOWS[0]))
            check_raises(self, BadCounted("things"), call, [THINGS[0], None], None)

    def test_equal(self):
        one, other = stretches([OneWay(1, "right")], Window(0, 1))
        self.assertTrue(one == stretches([OneWay(1, "right")], Window(0, 1))[0])
        self.assertFalse(one == other)
        for value in ANY:
            self.assertIs(one == value, False)
        for things, window in (([OneWay(1, "left")], Window(0, 1)), ([], Window(0, Ratio(1, 2))), ([OneWay(1, "right")], Window(Ratio(1, 10), 1))):
            self.assertFalse(one == stretches(things, window)[0])
        for window, due in ((Window(0, Ratio(1, 2)), True), (Window(0, Ratio(1, 3)), False), (Window(Ratio(1, 3), Ratio(1, 2)), False)):
            self.assertIs(stretches([], window) == stretches([], Window(0, Ratio(1, 2))), due)


if __name__ == "__main__":
    unittest.main()
