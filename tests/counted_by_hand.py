"""Counted things by a search over all rounds, without the program; some of them, and some windows."""

import random
from fractions import Fraction
from math import gcd

from spiralsays.counted import NearerStud, OneWay, RightLeft, SeenBoth
from spiralsays.ratios import Ratio
from spiralsays.stems import Stem
from spiralsays.windows import Window
from helpers import fraction, ratio

THINGS = [RightLeft(right, left) for right, left in ((1, 1), (1, 2), (2, 1), (3, 2), (2, 3), (8, 5), (5, 8), (21, 13), (1, 21), (20, 21), (4, 9))]
THINGS += [SeenBoth(right, left) for right, left in ((1, 1), (1, 2), (2, 1), (3, 2), (3, 1), (5, 8), (8, 5), (1, 4), (13, 21))]
THINGS += [OneWay(studs, side) for studs in (1, 2, 3, 4, 6, 8, 21) for side in ("right", "left")]
THINGS += [NearerStud(one, other) for one, other in ((1, 2), (2, 1), (3, 2), (3, 5), (5, 3), (5, 8), (6, 4), (21, 20), (7, 14))]

WINDOWS = [
    # A round wide, from a corner, a tie, a little behind one; to such; narrow ones.
    Window(0, 1), Window(0, Ratio(1, 2)), Window(Ratio(1, 2), Ratio(3, 2)), Window(Ratio(-1, 3), Ratio(2, 3)), Window(Ratio(1, 6), Ratio(1, 3)), Window(Ratio(1, 3), Ratio(1, 2)),
    Window(Ratio(3, 8), Ratio(2, 5)), Window(Ratio(1001, 6000), Ratio(1, 3)), Window(Ratio(-5, 2), Ratio(-2)), Window(Ratio(1, 4), Ratio(5, 16)), Window(7, Ratio(15, 2)),
    Window(Ratio(5, 13), Ratio(5, 13) + Ratio(1, 10 ** 6)), Window(Ratio(499, 1000), Ratio(501, 1000)), Window(Ratio(1, 10), 1),
]


def some_stems(turns, seed=5):
    """Stems of some turns, with great rises and small ones."""
    chance = random.Random(seed)
    found = []
    for turn in turns:
        turn = ratio(turn)
        for rise in (Fraction(3), Fraction(1, 5), Fraction(1, chance.randint(6, 40)), Fraction(1, chance.randint(50, 900)), Fraction(1, 10 ** 6)):
            found.append(Stem(turn, turn * turn + ratio(rise)))
    return found


def square(turn, squared, k, j):
    return k * k * squared - 2 * k * j * turn + j * j


def holds(thing, stem):
    """Whether a thing holds at a stem: all rounds near to the turn are tried."""
    turn, squared = fraction(stem.turn), fraction(stem.squared)
    if isinstance(thing, (RightLeft, SeenBoth)):
        for j in rounds_near(thing.right, turn):
            for i in rounds_near(thing.left, turn):
                if thing.right * i - thing.left * j != 1 or not Fraction(j, thing.right) < turn < Fraction(i, thing.left):
                    continue
                if isinstance(thing, RightLeft):
                    return True
                one, other = square(turn, squared, thing.right, j), square(turn, squared, thing.left, i)
                product = thing.right * thing.left * squared - (thing.right * i + thing.left * j) * turn + j * i
                if abs(product) <= one and abs(product) <= other:
                    return True
        return False
    if isinstance(thing, OneWay):
        for j in nearest(thing.studs, turn):
            if gcd(j, thing.studs) == 1 and (turn > Fraction(j, thing.studs) if thing.side == "right" else turn < Fraction(j, thing.studs)):
                return True
        return False
    one = min(square(turn, squared, thing.one, j) for j in nearest(thing.one, turn))
    other = min(square(turn, squared, thing.other, i) for i in nearest(thing.other, turn))
    return one < other


def rounds_near(studs, turn):
    middle = (studs * turn) // 1
    return range(int(middle) - studs - 3, int(middle) + studs + 4)


def nearest(studs, turn):
    """The one or two integers nearest to studs times turn."""
    near = [int((studs * turn) // 1) + more for more in (-1, 0, 1, 2)]
    least = min(abs(studs * turn - j) for j in near)
    return [j for j in near if abs(studs * turn - j) == least]


def cuts_by_hand(things, low, high):
    """The cuts strictly between two turns, by trying all rounds."""
    found = set()
    for thing in things:
        if isinstance(thing, (RightLeft, SeenBoth)):
            many = thing.right * thing.left
            for j in range(int(low * thing.right) - 2 * thing.right - 2, int(high * thing.right) + 2 * thing.right + 2):
                if (thing.left * j + 1) % thing.right == 0:
                    found |= {Fraction(j, thing.right), Fraction(j, thing.right) + Fraction(1, many)}
        elif isinstance(thing, OneWay):
            found |= {Fraction(j, 2 * thing.studs) for j in range(int(low * 2 * thing.studs) - 2, int(high * 2 * thing.studs) + 3)}
        else:
            for studs in (thing.one, thing.other):
                found |= {Fraction(2 * j + 1, 2 * studs) for j in range(int(low * studs) - 3, int(high * studs) + 4)}
    return sorted(cut for cut in found if low < cut < high)
