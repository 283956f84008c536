"""Nets: three upward steps, low, high and their sum."""

from spiralsays.checks import need_integer
from spiralsays.errors import BadNet, NotNeighbours
from spiralsays.pairs import cross
from spiralsays.steps import Step, is_upward, need_step
from spiralsays.stems import need_stem
from spiralsays.texts import read_whole


class Net:
    """Upward steps low, with studs, and high; cross (low, high) is 1."""

    def __init__(self, low, high):
        need_step(low, "low")
        need_step(high, "high")
        if low.is_round or not is_upward(low):
            raise BadNet("low")
        if not is_upward(high):
            raise BadNet("high")
        if cross(low, high) != 1:
            raise NotNeighbours(low, high)
        self.low = low
        self.high = high
        self.third = low + high
        self.steps = (low, high, self.third)

    @property
    def level(self):
        return level_of(self.low.studs, self.high.studs)

    @property
    def parent(self):
        if self.high.is_round:
            return None
        if self.low.studs <= self.high.studs:
            return Net(self.low, self.high - self.low)
        return Net(self.low - self.high, self.high)

    @property
    def children(self):
        first_below = Net(self.low, self.third)
        if self.high.is_round:
            return (first_below,)
        return (first_below, Net(self.third, self.high))

    @property
    def beside(self):
        if not self.high.is_round:
            return (self.parent,) + self.children
        whole = self.low.rounds
        return (Net.first(whole - 1), Net.first(whole + 1)) + self.children

    @staticmethod
    def first(whole):
        need_integer(whole, "whole")
        return Net(Step(1, whole), Step.one_round())

    def holds(self, stem):
        """Whether it is a net of the stem."""
        need_stem(stem, "stem")
        if stem.product(self.low, self.high).sign > 0:
            return False
        return stem.product(self.third, self.low).sign >= 0 and stem.product(self.third, self.high).sign >= 0

    def __eq__(self, other):
        return isinstance(other, Net) and self.low == other.low and self.high == other.high

    def __str__(self):
        return f"{self.low} {self.high}"

    @classmethod
    def read(cls, text):
        return read_whole(text, take_net)


def level_of(low, high):
    """How many nets lie above one whose low and high have so many studs."""
    level = 0
    while high != 0:
        # So many nets of one sort follow one another: they are counted at once.
        if low <= high:
            level = level + high // low
            high = high - high // low * low
        else:
            many = (low - 1) // high
            level = level + many
            low = low - many * high
    return level


def need_net(value, part):
    if not isinstance(value, Net):
        raise BadNet(part)


def take_net(words):
    studs = words.integer()
    if studs < 1:
        words.refuse()
    rounds = words.integer()
    low = Step(studs, rounds)
    if low.divisor > 1:
        words.refuse()
    other_studs = words.integer()
    # The rounds of high are those that bring the cross to 1, if they come out whole.
    if other_studs < 0 or (other_studs * rounds + 1) % studs != 0:
        words.refuse()
    other_rounds = words.integer()
    if other_rounds != (other_studs * rounds + 1) // studs:
        words.refuse()
    return Net(low, Step(other_studs, other_rounds))
