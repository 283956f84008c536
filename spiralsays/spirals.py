"""Spirals: the studs that a step leads through."""

from spiralsays.checks import need_integer, need_within
from spiralsays.stem_nets import nets_of
from spiralsays.steps import need_step, need_studs


def family(step, first, last):
    need_step(step, "step")
    need_integer(first, "first")
    need_within(last, first, None, "last")
    need_studs(step, "step")
    many = abs(step.studs)
    return tuple([tuple(range(first + number, last + 1, many)) for number in range(many)])


def seen(stem):
    """How many studs the steps of the nets have, those that lean right and those that lean left."""
    steps = [step for net in nets_of(stem) for step in net.steps if not step.is_round]
    right = sorted({step.studs for step in steps if stem.lean(step).sign > 0})
    left = sorted({step.studs for step in steps if stem.lean(step).sign < 0})
    return (tuple(right), tuple(left))
