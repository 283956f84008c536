"""Sayings: told rows that have a word of their own, or several that hold together."""

from spiralsays.checks import is_list
from spiralsays.errors import BadNumber, BadSaying, BadTold, TooMany
from spiralsays.nets import need_net, take_net
from spiralsays.pairs import are_neighbours, need_neighbours
from spiralsays.ratios import need_ratio, take_ratio
from spiralsays.rows import Row, Told, take_told
from spiralsays.steps import need_step, need_studs, take_step
from spiralsays.texts import read_whole

MOST_TOLD = 40
OF_PAIRS = ("shorter", "aslong", "sharp", "rightangle", "blunt", "steeper", "nearest")
OF_STEPS = ("leansright", "straightup", "leansleft")
OF_LENGTHS = ("nolonger", "longer")
OF_RATIOS = ("turnatmost", "turnbelow", "turnatleast", "turnabove", "turnis")


class Saying:
    """The base of all sayings; it is not called itself."""

    def __eq__(self, other):
        return isinstance(other, Saying) and str(self) == str(other)

    def __str__(self):
        return str(self.__class__.__name__.lower())

    @classmethod
    def read(cls, text):
        return read_whole(text, take_saying)


class Shorter(Saying):
    def __init__(self, one, other):
        self.one, self.other = two_steps(one, other)
        self.told = (Told.above(Row.of_square(other) - Row.of_square(one)),)

    def __eq__(self, other):
        return isinstance(other, Shorter) and self.one == other.one and self.other == other.other

    def __str__(self):
        return f"shorter {self.one} {self.other}"


class AsLong(Saying):
    def __init__(self, one, other):
        self.one, self.other = two_steps(one, other)
        self.told = (Told.zero(Row.of_square(one) - Row.of_square(other)),)

    def __eq__(self, other):
        return isinstance(other, AsLong) and self.one == other.one and self.other == other.other

    def __str__(self):
        return f"aslong {self.one} {self.other}"


class Sharp(Saying):
    def __init__(self, one, other):
        self.one, self.other = two_steps(one, other)
        self.told = (Told.above(Row.of_product(one, other)),)

    def __eq__(self, other):
        return isinstance(other, Sharp) and self.one == other.one and self.other == other.other

    def __str__(self):
        return f"sharp {self.one} {self.other}"


class RightAngle(Saying):
    def __init__(self, one, other):
        self.one, self.other = two_steps(one, other)
        self.told = (Told.zero(Row.of_product(one, other)),)

    def __eq__(self, other):
        return isinstance(other, RightAngle) and self.one == other.one and self.other == other.other

    def __str__(self):
        return f"rightangle {self.one} {self.other}"


class Blunt(Saying):
    def __init__(self, one, other):
        self.one, self.other = two_steps(one, other)
        self.told = (Told.above(-Row.of_product(one, other)),)

    def __eq__(self, other):
        return isinstance(other, Blunt) and self.one == other.one and self.other == other.other

    def __str__(self):
        return f"blunt {self.one} {self.other}"


class LeansRight(Saying):
    def __init__(self, step):
        self.step = step_with_studs(step)
        self.told = (Told.above(Row.of_lean(step.upward)),)

    def __eq__(self, other):
        return isinstance(other, LeansRight) and self.step == other.step

    def __str__(self):
        return f"leansright {self.step}"


class StraightUp(Saying):
    def __init__(self, step):
        self.step = step_with_studs(step)
        self.told = (Told.zero(Row.of_lean(step.upward)),)

    def __eq__(self, other):
        return isinstance(other, StraightUp) and self.step == other.step

    def __str__(self):
        return f"straightup {self.step}"


class LeansLeft(Saying):
    def __init__(self, step):
        self.step = step_with_studs(step)
        self.told = (Told.above(-Row.of_lean(step.upward)),)

    def __eq__(self, other):
        return isinstance(other, LeansLeft) and self.step == other.step

    def __str__(self):
        return f"leansleft {self.step}"


class Steeper(Saying):
    def __init__(self, one, other):
        self.one, self.other = two_steps(one, other)
        self.told = (Told.above(Row.of_steeper(one, other)),)

    def __eq__(self, other):
        return isinstance(other, Steeper) and self.one == other.one and self.other == other.other

    def __str__(self):
        return f"steeper {self.one} {self.other}"


class NoLonger(Saying):
    def __init__(self, step, length):
        self.step, self.length = step_and_length(step, length)
        self.told = (Told.least(square_less(self.length, step)),)

    def __eq__(self, other):
        return isinstance(other, NoLonger) and self.step == other.step and self.length == other.length

    def __str__(self):
        return f"nolonger {self.step} {self.length}"


class Longer(Saying):
    def __init__(self, step, length):
        self.step, self.length = step_and_length(step, length)
        self.told = (Told.above(-square_less(self.length, step)),)

    def __eq__(self, other):
        return isinstance(other, Longer) and self.step == other.step and self.length == other.length

    def __str__(self):
        return f"longer {self.step} {self.length}"


class TurnAtMost(Saying):
    def __init__(self, ratio):
        self.ratio = need_ratio(ratio, "ratio")
        self.told = (Told.least(Row(0, -1, ratio)),)

    def __eq__(self, other):
        return isinstance(other, TurnAtMost) and self.ratio == other.ratio

    def __str__(self):
        return f"turnatmost {self.ratio}"


class TurnBelow(Saying):
    def __init__(self, ratio):
        self.ratio = need_ratio(ratio, "ratio")
        self.told = (Told.above(Row(0, -1, ratio)),)

    def __eq__(self, other):
        return isinstance(other, TurnBelow) and self.ratio == other.ratio

    def __str__(self):
        return f"turnbelow {self.ratio}"


class TurnAtLeast(Saying):
    def __init__(self, ratio):
        self.ratio = need_ratio(ratio, "ratio")
        self.told = (Told.least(Row(0, 1, -self.ratio)),)

    def __eq__(self, other):
        return isinstance(other, TurnAtLeast) and self.ratio == other.ratio

    def __str__(self):
        return f"turnatleast {self.ratio}"


class TurnAbove(Saying):
    def __init__(self, ratio):
        self.ratio = need_ratio(ratio, "ratio")
        self.told = (Told.above(Row(0, 1, -self.ratio)),)

    def __eq__(self, other):
        return isinstance(other, TurnAbove) and self.ratio == other.ratio

    def __str__(self):
        return f"turnabove {self.ratio}"


class TurnIs(Saying):
    def __init__(self, ratio):
        self.ratio = need_ratio(ratio, "ratio")
        self.told = (Told.zero(Row(0, 1, -self.ratio)),)

    def __eq__(self, other):
        return isinstance(other, TurnIs) and self.ratio == other.ratio

    def __str__(self):
        return f"turnis {self.ratio}"


class IsNet(Saying):
    def __init__(self, net):
        need_net(net, "net")
        self.net = net
        low, high, third = net.steps
        rows = (-Row.of_product(low, high), Row.of_product(low, third), Row.of_product(high, third))
        self.told = tuple([Told.least(row) for row in rows])

    def __eq__(self, other):
        return isinstance(other, IsNet) and self.net == other.net

    def __str__(self):
        return f"isnet {self.net}"


class Nearest(Saying):
    def __init__(self, one, other):
        self.one, self.other = two_steps(one, other)
        need_neighbours(one, other)
        square = Row.of_square(one)
        double = Row.of_product(one, other) * 2
        rows = (square - double, square + double, Row.of_square(other) - square)
        self.told = tuple([Told.least(row) for row in rows])

    def __eq__(self, other):
        return isinstance(other, Nearest) and self.one == other.one and self.other == other.other

    def __str__(self):
        return f"nearest {self.one} {self.other}"


class Rows(Saying):
    def __init__(self, told):
        if not is_list(told) or len(told) == 0 or not all([isinstance(one, Told) for one in told]):
            raise BadTold("told")
        if len(told) > MOST_TOLD:
            raise TooMany("told", MOST_TOLD)
        self.told = tuple(told)

    def __eq__(self, other):
        return isinstance(other, Rows) and self.told == other.told

    def __str__(self):
        return " ".join(["rows", " , ".join([str(one) for one in self.told])])


def two_steps(one, other):
    need_step(one, "one")
    need_step(other, "other")
    return (one, other)


def step_with_studs(step):
    need_step(step, "step")
    need_studs(step, "step")
    return step


def step_and_length(step, length):
    need_step(step, "step")
    ratio = need_ratio(length, "length")
    if ratio.sign < 0:
        raise BadNumber("length")
    return (step, ratio)


def square_less(length, step):
    """The row of length times length less the square of the step."""
    return Row(0, 0, length * length) - Row.of_square(step)


def need_saying(value, part):
    if not isinstance(value, Saying):
        raise BadSaying(part)


def take_saying(words):
    word = words.take()
    if word in OF_PAIRS:
        return take_of_pair(words, word)
    if word in OF_STEPS:
        return of_step(word, take_step_with_studs(words))
    if word in OF_LENGTHS:
        return take_of_length(words, word)
    if word in OF_RATIOS:
        return of_ratio(word, take_ratio(words))
    if word == "isnet":
        return IsNet(take_net(words))
    if word != "rows":
        words.refuse()
    return take_rows(words)


def take_of_pair(words, word):
    one = take_step_with_studs(words) if word == "steeper" else take_step(words)
    other = take_step_with_studs(words) if word == "steeper" else take_step(words)
    if word == "nearest" and not are_neighbours(one, other):
        words.refuse()
    return of_pair(word, one, other)


def take_step_with_studs(words):
    step = take_step(words)
    if step.is_round:
        words.refuse()
    return step


def take_of_length(words, word):
    step = take_step(words)
    length = take_ratio(words)
    if length.sign < 0:
        words.refuse()
    return NoLonger(step, length) if word == "nolonger" else Longer(step, length)


def take_rows(words):
    told = [take_told(words)]
    while words.has_next(",") and len(told) < MOST_TOLD:
        words.take()
        told.append(take_told(words))
    return Rows(told)


def of_pair(word, one, other):
    if word == "shorter":
        return Shorter(one, other)
    if word == "aslong":
        return AsLong(one, other)
    if word == "sharp":
        return Sharp(one, other)
    if word == "rightangle":
        return RightAngle(one, other)
    if word == "blunt":
        return Blunt(one, other)
    return Steeper(one, other) if word == "steeper" else Nearest(one, other)


def of_step(word, step):
    if word == "leansright":
        return LeansRight(step)
    return StraightUp(step) if word == "straightup" else LeansLeft(step)


def of_ratio(word, ratio):
    if word == "turnatmost":
        return TurnAtMost(ratio)
    if word == "turnbelow":
        return TurnBelow(ratio)
    if word == "turnatleast":
        return TurnAtLeast(ratio)
    return TurnAbove(ratio) if word == "turnabove" else TurnIs(ratio)
