"""Stems: posts told by two ratios."""

from spiralsays.errors import BadStem
from spiralsays.ratios import Ratio, is_ratio, take_ratio
from spiralsays.steps import need_step, need_studs
from spiralsays.texts import read_whole


class Stem:
    """The turn D, and the squared E: that of the turn and that of the rise together."""

    def __init__(self, turn, squared):
        if not is_ratio(turn):
            raise BadStem("turn")
        if not is_ratio(squared):
            raise BadStem("squared")
        self.turn = Ratio.of(turn)
        self.squared = Ratio.of(squared)
        self.rise = self.squared - self.turn * self.turn
        if self.rise.sign <= 0:
            raise BadStem("stem")

    def square(self, step):
        need_step(step, "step")
        return self.product(step, step)

    def product(self, one, other):
        need_step(one, "one")
        need_step(other, "other")
        ahead = self.squared * (one.studs * other.studs)
        mixed = self.turn * (one.studs * other.rounds + other.studs * one.rounds)
        return ahead - mixed + one.rounds * other.rounds

    def lean(self, step):
        need_step(step, "step")
        return self.turn * step.studs - step.rounds

    def is_steeper(self, one, other):
        need_step(one, "one")
        need_step(other, "other")
        need_studs(one, "one")
        need_studs(other, "other")
        # At one height: each lean is taken as many times as the other step has studs.
        aside = abs(self.lean(one) * other.studs)
        return aside.is_below(abs(self.lean(other) * one.studs))

    def __eq__(self, other):
        return isinstance(other, Stem) and self.turn == other.turn and self.squared == other.squared

    def __str__(self):
        return f"{self.turn} {self.squared}"

    @classmethod
    def read(cls, text):
        return read_whole(text, take_stem)


def need_stem(value, part):
    if not isinstance(value, Stem):
        raise BadStem(part)


def take_stem(words):
    turn = take_ratio(words)
    squared = take_ratio(words)
    if not (turn * turn).is_below(squared):
        words.refuse()
    return Stem(turn, squared)
