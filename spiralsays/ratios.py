"""Ratios: exact fractions in lowest terms."""

from math import gcd

from spiralsays.checks import is_integer, is_list
from spiralsays.errors import BadNumber, BadRatio
from spiralsays.texts import integer_of, read_whole


class Ratio:
    """Top over bottom, without a common divisor, the bottom above 0."""

    def __init__(self, top, bottom=1):
        if not is_integer(top):
            raise BadRatio("top")
        if not is_integer(bottom) or bottom == 0:
            raise BadRatio("bottom")
        common = gcd(top, bottom) if bottom > 0 else -gcd(top, bottom)
        self.top = top // common
        self.bottom = bottom // common

    @property
    def sign(self):
        return sign_of(self.top)

    @property
    def is_whole(self):
        return self.bottom == 1

    @property
    def below(self):
        return self.top // self.bottom

    def __add__(self, other):
        right = at_right(other)
        return Ratio(self.top * right.bottom + right.top * self.bottom, self.bottom * right.bottom)

    def __sub__(self, other):
        right = at_right(other)
        return Ratio(self.top * right.bottom - right.top * self.bottom, self.bottom * right.bottom)

    def __mul__(self, other):
        right = at_right(other)
        return Ratio(self.top * right.top, self.bottom * right.bottom)

    def over(self, other):
        right = at_right(other)
        if right.top == 0:
            raise BadRatio("zero")
        return Ratio(self.top * right.bottom, self.bottom * right.top)

    def compared(self, other):
        right = at_right(other)
        return sign_of(self.top * right.bottom - right.top * self.bottom)

    def is_below(self, other):
        return self.compared(other) < 0

    def __neg__(self):
        return Ratio(-self.top, self.bottom)

    def __abs__(self):
        return Ratio(abs(self.top), self.bottom)

    def __bool__(self):
        return bool(self.top)

    def __eq__(self, other):
        if isinstance(other, Ratio):
            return self.top == other.top and self.bottom == other.bottom
        return is_integer(other) and self.bottom == 1 and self.top == other

    def __str__(self):
        if self.bottom == 1:
            return str(self.top)
        return f"{self.top}/{self.bottom}"

    def __repr__(self):
        return str(self)

    @classmethod
    def read(cls, text):
        return read_whole(text, take_ratio)

    @staticmethod
    def of(value):
        if not is_ratio(value):
            raise BadRatio("value")
        return value if isinstance(value, Ratio) else Ratio(value)


def sign_of(number):
    """-1, 0 or 1, as an integer is below, at or above 0."""
    if number < 0:
        return -1
    return 1 if number > 0 else 0


def is_ratio(value):
    return isinstance(value, Ratio) or is_integer(value)


def at_right(value):
    if not is_ratio(value):
        raise BadRatio("other")
    return Ratio.of(value)


def need_ratio(value, part):
    """The Ratio of what is told as a ratio."""
    if not is_ratio(value):
        raise BadNumber(part)
    return Ratio.of(value)


def need_ratios(ratios):
    if not is_list(ratios) or not all([is_ratio(one) for one in ratios]):
        raise BadRatio("ratios")


def added(ratios):
    need_ratios(ratios)
    total = Ratio(0)
    for one in ratios:
        total = total + one
    return total


def least_of(ratios):
    need_ratios(ratios)
    if len(ratios) == 0:
        raise BadRatio("ratios")
    least = Ratio.of(ratios[0])
    for one in ratios:
        if Ratio.of(one).is_below(least):
            least = Ratio.of(one)
    return least


def greatest_of(ratios):
    need_ratios(ratios)
    return -least_of([-Ratio.of(one) for one in ratios])


def ratio_of(word):
    """The Ratio whose text is this word, None if there is none."""
    top_word, slash, bottom_word = word.partition("/")
    top = integer_of(top_word)
    bottom = integer_of(bottom_word) if slash == "/" else 1
    if top is None or bottom is None or bottom == 0:
        return None
    ratio = Ratio(top, bottom)
    return ratio if str(ratio) == word else None


def take_ratio(words):
    ratio = ratio_of(words.take())
    if ratio is None:
        words.refuse()
    return ratio
