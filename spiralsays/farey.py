"""Ratios of a bottom up to a told one: the ones that are next to each other."""

from spiralsays.pairs import inverse
from spiralsays.ratios import Ratio


def next_above(ratio, most):
    """The least ratio above this one, of a bottom up to most; its own is not beyond that."""
    # It is near: its bottom, times the top, leaves -1 as it is divided by the ratio's bottom.
    rest = -inverse(ratio.top, ratio.bottom) % ratio.bottom
    bottom = most - (most - rest) % ratio.bottom
    return Ratio((ratio.top * bottom + 1) // ratio.bottom, bottom)


def greatest_that(holds, begin, most):
    """The greatest ratio, of a bottom up to most, that holds.

    If one holds all lesser ones do; one of them does, and begin, a whole number, is no less
    than the greatest whole one.
    """
    whole = greatest_whole(holds, begin)
    low, high = (whole, 1), (whole + 1, 1)
    while low[1] + high[1] <= most:
        # Many mediants at once: they hold one behind another, or fail one behind another.
        if holds(Ratio(low[0] + high[0], low[1] + high[1])):
            low = last_that(holds, True, low, high, most)
        else:
            high = last_that(holds, False, high, low, most)
    return Ratio(low[0], low[1])


def greatest_whole(holds, begin):
    """The greatest whole number that holds, none above begin."""
    if holds(Ratio(begin)):
        return begin
    many = 1
    while not holds(Ratio(begin - many)):
        many = 2 * many
    low, high = begin - many, begin - many // 2
    while high - low > 1:
        middle = (low + high) // 2
        if holds(Ratio(middle)):
            low = middle
        else:
            high = middle
    return low


def last_that(holds, wanted, start, aim, most):
    """The last ratio on the way from start to aim that answers as wanted; the first one does."""
    least, beyond = 1, (most - start[1]) // aim[1] + 1
    while beyond - least > 1:
        middle = (least + beyond) // 2
        if holds(Ratio(start[0] + middle * aim[0], start[1] + middle * aim[1])) == wanted:
            least = middle
        else:
            beyond = middle
    return (start[0] + least * aim[0], start[1] + least * aim[1])
