"""The simplest ratio of a stretch that is known by its sides alone.

A stretch is any object with side_of(top, bottom), bottom above 0: -1 if this ratio
lies below the stretch, 0 if it is in it, 1 if it lies above. So its ends need
be no ratios.
"""

from spiralsays.ratios import Ratio


class Turned:
    """A stretch with above and below exchanged."""

    def __init__(self, stretch):
        self.stretch = stretch

    def side_of(self, top, bottom):
        return -self.stretch.side_of(-top, bottom)


def simplest_in(stretch):
    """The ratio of least bottom in a stretch, of whole ones that of least absolute value."""
    side = stretch.side_of(0, 1)
    if side == 0:
        return Ratio(0)
    if side > 0:
        return -simplest_above(Turned(stretch))
    return simplest_above(stretch)


def simplest_above(stretch):
    """The same of a stretch that lies above 0."""
    whole = first_reached(stretch, (0, 1), (1, 0))
    if stretch.side_of(whole, 1) == 0:
        return Ratio(whole)
    low, high = (whole - 1, 1), (whole, 1)
    turned = Turned(stretch)
    while True:
        # Towards low until the stretch is not below any more, then towards high.
        times = first_reached(turned, (-high[0], high[1]), (-low[0], low[1]))
        last = on_the_way(high, low, times)
        if stretch.side_of(last[0], last[1]) == 0:
            return Ratio(last[0], last[1])
        low, high = last, on_the_way(high, low, times - 1)
        times = first_reached(stretch, low, high)
        last = on_the_way(low, high, times)
        if stretch.side_of(last[0], last[1]) == 0:
            return Ratio(last[0], last[1])
        low, high = on_the_way(low, high, times - 1), last


def on_the_way(start, aim, times):
    """The ratio that is met from start, a mediant with aim being taken so many times."""
    return (start[0] + times * aim[0], start[1] + times * aim[1])


def first_reached(stretch, start, aim):
    """The least number of times, from 1 on, at which the way does not lie below the stretch."""
    below, beyond = 0, 1
    while is_below(stretch, on_the_way(start, aim, beyond)):
        below, beyond = beyond, 2 * beyond
    while beyond - below > 1:
        middle = (below + beyond) // 2
        if is_below(stretch, on_the_way(start, aim, middle)):
            below = middle
        else:
            beyond = middle
    return beyond


def is_below(stretch, ratio):
    return stretch.side_of(ratio[0], ratio[1]) < 0
