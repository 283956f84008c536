"""Told ones in integers: half-planes of the pairs (D, E)."""

from math import lcm


class Limit:
    """a E + b D + c is at least strict times a trifle: a number as little above 0 as you like.

    It is the row of the told one of this number, scale times; a scale below 0 turns it about.
    """

    def __init__(self, row, strict, number, scale):
        self.a = (row.a * scale).top
        self.b = (row.b * scale).top
        self.c = (row.c * scale).top
        self.strict = strict
        self.number = number
        self.scale = scale


def limits_of(told):
    """The limits of some told ones; one that is told zero makes two."""
    limits = []
    for number, one in enumerate(told):
        scale = lcm(one.row.a.bottom, one.row.b.bottom, one.row.c.bottom)
        limits.append(Limit(one.row, 1 if one.kind == "above" else 0, number, scale))
        if one.kind == "zero":
            limits.append(Limit(one.row, 0, number, -scale))
    return limits
