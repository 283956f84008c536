"""Rows, and rows that are told of a kind."""

from spiralsays.errors import BadRow, BadTold
from spiralsays.ratios import Ratio, is_ratio, need_ratio, take_ratio
from spiralsays.stems import need_stem
from spiralsays.steps import need_step, need_studs
from spiralsays.texts import read_whole

KINDS = ("zero", "least", "above")


class Row:
    """Three ratios: at a stem a E + b D + c."""

    def __init__(self, a, b, c):
        if not is_ratio(a):
            raise BadRow("a")
        if not is_ratio(b):
            raise BadRow("b")
        if not is_ratio(c):
            raise BadRow("c")
        self.a = Ratio.of(a)
        self.b = Ratio.of(b)
        self.c = Ratio.of(c)

    def __add__(self, other):
        need_row(other, "other")
        return Row(self.a + other.a, self.b + other.b, self.c + other.c)

    def __sub__(self, other):
        need_row(other, "other")
        return Row(self.a - other.a, self.b - other.b, self.c - other.c)

    def __neg__(self):
        return Row(-self.a, -self.b, -self.c)

    def __mul__(self, other):
        times = need_ratio(other, "ratio")
        return Row(self.a * times, self.b * times, self.c * times)

    def at(self, stem):
        need_stem(stem, "stem")
        return self.a * stem.squared + self.b * stem.turn + self.c

    @staticmethod
    def of_square(step):
        need_step(step, "step")
        return Row.of_product(step, step)

    @staticmethod
    def of_product(one, other):
        need_step(one, "one")
        need_step(other, "other")
        mixed = one.studs * other.rounds + other.studs * one.rounds
        return Row(one.studs * other.studs, -mixed, one.rounds * other.rounds)

    @staticmethod
    def of_lean(step):
        need_step(step, "step")
        return Row(0, step.studs, -step.rounds)

    @staticmethod
    def of_steeper(one, other):
        need_step(one, "one")
        need_step(other, "other")
        need_studs(one, "one")
        need_studs(other, "other")
        near = one.rounds * other.studs
        far = one.studs * other.rounds
        return Row(0, 2 * one.studs * other.studs * (near - far), far * far - near * near)

    def __eq__(self, other):
        return isinstance(other, Row) and self.a == other.a and self.b == other.b and self.c == other.c

    def __str__(self):
        return f"{self.a} {self.b} {self.c}"

    @classmethod
    def read(cls, text):
        return read_whole(text, take_row)


class Told:
    """A row that is told: 0, at least 0, or above 0."""

    def __init__(self, kind, row):
        if not isinstance(kind, str) or kind not in KINDS:
            raise BadTold("kind")
        need_row(row, "row")
        self.kind = kind
        self.row = row

    @staticmethod
    def zero(row):
        return Told("zero", row)

    @staticmethod
    def least(row):
        return Told("least", row)

    @staticmethod
    def above(row):
        return Told("above", row)

    def holds(self, stem):
        sign = self.row.at(stem).sign
        if self.kind == "zero":
            return sign == 0
        return sign > 0 or (sign == 0 and self.kind == "least")

    def contrary(self):
        if self.kind == "zero":
            return (Told.above(self.row), Told.above(-self.row))
        return (Told.above(-self.row),) if self.kind == "least" else (Told.least(-self.row),)

    def __eq__(self, other):
        return isinstance(other, Told) and self.kind == other.kind and self.row == other.row

    def __str__(self):
        return f"{self.kind} {self.row}"

    @classmethod
    def read(cls, text):
        return read_whole(text, take_told)


def need_row(value, part):
    if not isinstance(value, Row):
        raise BadRow(part)


def need_told(value, part):
    if not isinstance(value, Told):
        raise BadTold(part)


def bounds_squared(told):
    """Whether a told one bounds E, the greater ones being left out from some on."""
    return told.row.a.sign < 0 or (told.kind == "zero" and told.row.a.sign != 0)


def take_row(words):
    a = take_ratio(words)
    b = take_ratio(words)
    return Row(a, b, take_ratio(words))


def take_told(words):
    kind = words.take()
    if kind not in KINDS:
        words.refuse()
    return Told(kind, take_row(words))
