"""Nets that were seen in an order, as the rise falls; the road of heights."""

from spiralsays.books import Book
from spiralsays.checks import is_list
from spiralsays.errors import BadNet, TooMany
from spiralsays.heights import Heights, Tie, need_heights
from spiralsays.nets import Net
from spiralsays.sayings import IsNet
from spiralsays.stacks import stack_of
from spiralsays.tied_fits import HeightGround, need_possible_heights
from spiralsays.turns import road_over


def seen_in_order(nets):
    if not is_list(nets) or len(nets) == 0 or not all([isinstance(one, Net) for one in nets]):
        raise BadNet("nets")
    if len(nets) > Heights.MOST:
        raise TooMany("heights", Heights.MOST)
    ties = [Tie(height, height + 1, "above") for height in range(len(nets) - 1)]
    return Heights([Book(IsNet(net).told) for net in nets], ties)


def sure_road_of(heights):
    need_heights(heights, "heights")
    need_possible_heights(heights)
    return road_over(HeightGround(stack_of(heights), 0))
