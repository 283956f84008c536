"""Sayings for the tests of words, nets and texts."""

from spiralsays.nets import Net
from spiralsays.ratios import Ratio
from spiralsays.rows import Row, Told
from spiralsays.sayings import (
    AsLong, Blunt, IsNet, LeansLeft, LeansRight, Longer, Nearest, NoLonger, RightAngle, Rows, Sharp, Shorter, Steeper,
    StraightUp, TurnAbove, TurnAtLeast, TurnAtMost, TurnBelow, TurnIs,
)
from spiralsays.steps import Step

A, B, C = Step(3, 1), Step(1, 0), Step(2, 1)
ROUND, FIVE, DOWN = Step.one_round(), Step(5, 2), Step(-2, -1)
OF_PAIRS = (Shorter, AsLong, Sharp, RightAngle, Blunt)
OF_STEPS = (LeansRight, StraightUp, LeansLeft)
OF_LENGTHS = (NoLonger, Longer)
OF_RATIOS = (TurnAtMost, TurnBelow, TurnAtLeast, TurnAbove, TurnIs)

# Steps may be any ones: the round, one step twice, a step and its opposite, downward ones, with a divisor.
PAIRS = [(A, C), (C, A), (A, B), (A, ROUND), (ROUND, A), (A, A), (C, DOWN), (DOWN, FIVE), (Step(4, 2), Step(-3, 2)), (ROUND, ROUND), (-ROUND, B)]
WITH_STUDS = [(one, other) for one, other in PAIRS if one.studs != 0 and other.studs != 0]
NEIGHBOURS = [(A, C), (A, FIVE), (C, A), (B, ROUND), (ROUND, B), (-A, C), (FIVE, A), (DOWN, A), (Step(1, 7), -ROUND)]
LENGTHS = [0, Ratio(1, 3), 2, Ratio(5, 7)]
RATIOS = [0, Ratio(-7, 3), 5, Ratio(3, 8), -2]
NETS = [Net.first(0), Net.first(-3), Net(B, C), Net(A, C), Net(Step(5, -2), Step(3, -1))]
ROWS = [
    [Told.zero(Row(1, 0, -1))], [Told.least(Row(0, 1, Ratio(-1, 3))), Told.above(Row(0, -1, Ratio(1, 2)))],
    [Told.above(Row(0, 0, 0))], [Told.zero(Row(0, 1, Ratio(-1, 3))), Told.zero(Row(1, 0, Ratio(-1, 4))), Told.zero(Row(1, 0, Ratio(-1, 4)))],
]

SAYINGS = (
    [kind(*pair) for kind in OF_PAIRS for pair in PAIRS] + [Steeper(*pair) for pair in WITH_STUDS]
    + [kind(step) for kind in OF_STEPS for step in (A, C, DOWN, Step(-4, 6))]
    + [kind(step, length) for kind in OF_LENGTHS for step in (A, ROUND, DOWN) for length in LENGTHS]
    + [kind(value) for kind in OF_RATIOS for value in RATIOS]
    + [IsNet(net) for net in NETS] + [Nearest(*pair) for pair in NEIGHBOURS] + [Rows(told) for told in ROWS]
)
