"""Windows: the turns from a ratio to another one, at most a round beyond it."""

from spiralsays.errors import BadWindow
from spiralsays.fits import told_at_least, told_at_most
from spiralsays.ratios import Ratio, is_ratio, take_ratio
from spiralsays.stems import Stem
from spiralsays.texts import read_whole


class Window:
    """The ratios low and high, both of them in it."""

    def __init__(self, low, high):
        if not is_ratio(low):
            raise BadWindow("low")
        if not is_ratio(high):
            raise BadWindow("high")
        self.low = Ratio.of(low)
        self.high = Ratio.of(high)
        if not are_ends(self.low, self.high):
            raise BadWindow("window")
        self.told = (told_at_least(self.low), told_at_most(self.high))

    def __contains__(self, x):
        """Whether any value is a stem in it."""
        return isinstance(x, Stem) and all([one.holds(x) for one in self.told])

    def __eq__(self, other):
        return isinstance(other, Window) and self.low == other.low and self.high == other.high

    def __str__(self):
        return f"{self.low} {self.high}"

    @classmethod
    def read(cls, text):
        return read_whole(text, take_window)


def are_ends(low, high):
    return low.is_below(high) and not (low + 1).is_below(high)


def need_window(value, part):
    if not isinstance(value, Window):
        raise BadWindow(part)


def take_window(words):
    low = take_ratio(words)
    high = take_ratio(words)
    if not are_ends(low, high):
        words.refuse()
    return Window(low, high)
