"""The studs laid out round a stem: places and nearest rounds."""

from spiralsays.checks import need_integer, need_within
from spiralsays.errors import BadNumber
from spiralsays.ratios import Ratio, is_ratio
from spiralsays.stems import need_stem

FARTHEST = 1000


def place(stem, stud):
    need_stem(stem, "stem")
    need_integer(stud, "stud")
    around = stem.turn * stud
    return around - around.below


def nearest_rounds(stem, stud):
    here = place(stem, stud)
    below = (stem.turn * stud).below
    half = here.compared(Ratio(1, 2))
    if half == 0:
        return (below, below + 1)
    return (below,) if half < 0 else (below + 1,)


def laid(stem, first, last):
    need_stem(stem, "stem")
    need_integer(first, "first")
    need_within(last, first, None, "last")
    for stud in range(first, last + 1):
        yield (stud, place(stem, stud))


def first_within(stem, low, high, most):
    """The first stud from 1 to most with a place from low to high, None without one."""
    need_stem(stem, "stem")
    if not is_ratio(low) or not is_between(Ratio(0), Ratio.of(low)):
        raise BadNumber("low")
    if not is_ratio(high) or not is_between(Ratio.of(low), Ratio.of(high)):
        raise BadNumber("high")
    need_within(most, 1, FARTHEST, "most")
    for stud in range(1, most + 1):
        here = place(stem, stud)
        if not here.is_below(low) and not Ratio.of(high).is_below(here):
            return stud
    return None


def is_between(least, ratio):
    """Whether a ratio is from least to below 1."""
    return not ratio.is_below(least) and ratio.is_below(1)
