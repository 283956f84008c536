"""Steps: so many studs on, and so many rounds back."""

from math import gcd

from spiralsays.checks import is_integer
from spiralsays.errors import BadNumber, BadStep, Round
from spiralsays.ratios import Ratio
from spiralsays.texts import read_whole


class Step:
    """Two integers, not both 0."""

    def __init__(self, studs, rounds):
        if not is_integer(studs):
            raise BadStep("studs")
        if not is_integer(rounds):
            raise BadStep("rounds")
        if studs == 0 and rounds == 0:
            raise BadStep("step")
        self.studs = studs
        self.rounds = rounds
        self.divisor = gcd(studs, rounds)
        self.is_round = studs == 0

    @property
    def upward(self):
        return self if is_upward(self) else Step(-self.studs, -self.rounds)

    @property
    def corner(self):
        need_studs(self, "step")
        return Ratio(self.rounds, self.studs)

    @staticmethod
    def one_round():
        return Step(0, 1)

    def __add__(self, other):
        need_step(other, "other")
        return summed(self.studs + other.studs, self.rounds + other.rounds)

    def __sub__(self, other):
        need_step(other, "other")
        return summed(self.studs - other.studs, self.rounds - other.rounds)

    def __neg__(self):
        return Step(-self.studs, -self.rounds)

    def __mul__(self, other):
        if not is_integer(other) or other == 0:
            raise BadNumber("times")
        return Step(self.studs * other, self.rounds * other)

    def __eq__(self, other):
        return isinstance(other, Step) and self.studs == other.studs and self.rounds == other.rounds

    def __str__(self):
        return f"{self.studs} {self.rounds}"

    @classmethod
    def read(cls, text):
        return read_whole(text, take_step)


def summed(studs, rounds):
    """The step of a sum, of which something must be left."""
    if studs == 0 and rounds == 0:
        raise BadStep("sum")
    return Step(studs, rounds)


def is_upward(step):
    return step.studs > 0 or (step.studs == 0 and step.rounds > 0)


def need_step(value, part):
    if not isinstance(value, Step):
        raise BadStep(part)


def need_studs(step, part):
    if step.is_round:
        raise Round(part)


def take_step(words):
    studs = words.integer()
    rounds = words.integer()
    if studs == 0 and rounds == 0:
        words.refuse()
    return Step(studs, rounds)
