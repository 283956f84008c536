"""Pairs of steps: the cross, neighbours, the mate of a step."""

from spiralsays.errors import Common, NotNeighbours
from spiralsays.steps import Step, need_step


def cross(one, other):
    need_step(one, "one")
    need_step(other, "other")
    return one.studs * other.rounds - other.studs * one.rounds


def are_neighbours(one, other):
    return abs(cross(one, other)) == 1


def need_neighbours(one, other):
    if not are_neighbours(one, other):
        raise NotNeighbours(one, other)


def between(one, other):
    need_neighbours(one, other)
    return one + other


def mate(step):
    """The neighbour of least studs, then of least rounds, with cross (mate, step) = 1."""
    need_step(step, "step")
    if step.divisor > 1:
        raise Common(step.divisor)
    if step.is_round:
        # All rounds do here: none is the least.
        return Step(step.rounds, 0)
    many = abs(step.studs)
    studs = inverse(step.rounds, many)
    # The studs of the mates are many apart; of two as far from 0 the one above comes first.
    if 2 * studs > many:
        studs -= many
    return Step(studs, (studs * step.rounds - 1) // step.studs)


def inverse(number, modulus):
    """The integer from 0 to below modulus that, times number, leaves 1 as 1 does."""
    left, right = modulus, number % modulus
    share, following = 0, 1
    while right != 0:
        times = left // right
        left, right = right, left - times * right
        share, following = following, share - times * following
    return share % modulus
