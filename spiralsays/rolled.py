"""Stems rolled up by another step, and stems that are alike."""

from math import gcd, lcm

from spiralsays.carried import carried_stem
from spiralsays.checks import need_within
from spiralsays.pairs import cross, mate
from spiralsays.papers import Denial
from spiralsays.stem_nets import nearest_two
from spiralsays.stems import need_stem
from spiralsays.steps import Step, need_step
from spiralsays.tables import Table

MOST_STEMS = 12


class Unalike(Denial):
    """The nearest two of the one stem, and those of the other one."""

    def __init__(self, one, other):
        super().__init__("unalike", one, other)
        self.one, self.other = self.parts


def rolled(stem, around):
    need_stem(stem, "stem")
    need_step(around, "around")
    stud = mate(around)
    # Each around more in the stud is a round less in the turn.
    rounds = (-stem.product(stud, around).over(stem.square(around))).below
    if rounds != 0:
        stud = stud + around * rounds
    table = Table(stud, around)
    return (carried_stem(stem, table), table)


def sheets_alike(one, other):
    need_stem(one, "one")
    need_stem(other, "other")
    here, there = nearest_two(one), nearest_two(other)
    if ratios_of(one, here) != ratios_of(other, there):
        return Unalike(here, there)
    first, second = here
    if one.product(first, second).sign * other.product(there[0], there[1]).sign < 0:
        second = -second
    return Table(counterpart((first, second), there, Step(1, 0)), counterpart((first, second), there, Step.one_round()))


def ratios_of(stem, pair):
    """The two ratios that tell a sheet: of the nearest two's squares, and of their product."""
    one, other = pair
    square = stem.square(one)
    return (stem.square(other).over(square), abs(stem.product(one, other)).over(square))


def counterpart(pair, beside, step):
    """The step that is told by a pair of neighbours as the step is by the pair beside."""
    one, other = beside
    sign = cross(one, other)
    first, second = cross(step, other) * sign, cross(one, step) * sign
    if first == 0:
        return pair[1] * second
    return pair[0] * first if second == 0 else pair[0] * first + pair[1] * second


def each_rolled(stem, many):
    need_stem(stem, "stem")
    need_within(many, 1, MOST_STEMS, "many")
    steps = sorted(plain_steps(stem, many))
    return tuple([rolled(stem, Step(studs, rounds))[0] for square, studs, rounds in steps[:many]])


def plain_steps(stem, many):
    """The shortest upward steps without a common divisor, so many and more, behind their squares in integers."""
    one, other = nearest_two(stem)
    times = lcm(stem.turn.bottom, stem.squared.bottom)
    steps = [one]
    # A step with other more often than this, or farther from the middle, is longer than so many with other once.
    for across in range(1, many + 1):
        middle = (-stem.product(one, other) * across).over(stem.square(one)).below
        for along in range(middle - many, middle + many + 2):
            if gcd(along, across) == 1:
                studs = one.studs * along + other.studs * across
                steps.append(Step(studs, one.rounds * along + other.rounds * across).upward)
    return [((stem.square(step) * times).top, step.studs, step.rounds) for step in steps]
