"""Fractions: mediants, near ones, parents and runs."""

from spiralsays.errors import Unlike
from spiralsays.pairs import inverse
from spiralsays.ratios import Ratio, need_ratio


def mediant(one, other):
    left = need_ratio(one, "one")
    right = need_ratio(other, "other")
    return Ratio(left.top + right.top, left.bottom + right.bottom)


def are_near(one, other):
    left = need_ratio(one, "one")
    right = need_ratio(other, "other")
    return abs(left.top * right.bottom - right.top * left.bottom) == 1


def whole_of(ratio):
    return need_ratio(ratio, "ratio").below


def parents(ratio):
    """The near pair whose mediant the ratio is; None twice for a whole number."""
    told = need_ratio(ratio, "ratio")
    if told.is_whole:
        return (None, None)
    # The lower one, a / b, is near: top b - bottom a = 1, and b is below the bottom.
    bottom = inverse(told.top, told.bottom)
    top = (told.top * bottom - 1) // told.bottom
    return (Ratio(top, bottom), Ratio(told.top - top, told.bottom - bottom))


def runs_of(ratio):
    """The runs of letters by which a ratio is found, by division with a rest."""
    told = need_ratio(ratio, "ratio")
    if told.is_whole:
        raise Unlike("whole")
    left, right = told.bottom, told.top % told.bottom
    runs = []
    while right != 0:
        runs.append(left // right)
        left, right = right, left % right
    # The whole number and the next one are the begin, one letter on;
    # and the way stops at the ratio, one letter ahead of its last run's end.
    runs[0] -= 1
    runs[-1] -= 1
    return () if runs == [0] else tuple(runs)
