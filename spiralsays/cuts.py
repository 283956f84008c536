"""The cuts of counted things, and the stretches of turns between them."""

from math import lcm

from spiralsays.checks import is_list
from spiralsays.counted import Counted
from spiralsays.errors import BadCounted, TooMany
from spiralsays.ratios import Ratio
from spiralsays.windows import Window, need_window

MOST_CUTS = 100


class Stretch:
    """From low to high: pieces has the piece of the things there, if they have one, cases their case."""

    def __init__(self, low, high, pieces):
        self.low = low
        self.high = high
        self.pieces = pieces
        self.cases = tuple([piece + Window(low, high).told for piece in pieces])

    def __eq__(self, other):
        if not isinstance(other, Stretch):
            return False
        return self.low == other.low and self.high == other.high and self.pieces == other.pieces


def cuts(things, window):
    need_things(things)
    need_window(window, "window")
    return cuts_of(things, window)


def stretches(things, window):
    need_things(things)
    need_window(window, "window")
    need_few_cuts(things, window)
    return stretches_of(things, window, ())


def need_things(things):
    if not is_list(things) or not all([isinstance(one, Counted) for one in things]):
        raise BadCounted("things")


def need_few_cuts(things, window):
    if len(cuts_of(things, window)) > MOST_CUTS:
        raise TooMany("cuts", MOST_CUTS)


def cuts_of(things, window):
    """The cuts strictly within the window, ascending, each once."""
    found = [place for one in things for place in one.places(window.low, window.high)]
    # Over one bottom they are integers, which can be ordered.
    bottom = 1
    for place in found:
        bottom = lcm(bottom, place.bottom)
    return tuple([Ratio(top, bottom) for top in sorted({place.top * (bottom // place.bottom) for place in found})])


def stretches_of(things, window, others):
    """The stretches of things and of others together, with the pieces of the things alone; ever so many."""
    ends = (window.low,) + cuts_of(tuple(things) + tuple(others), window) + (window.high,)
    return tuple([Stretch(low, high, pieces_between(things, low, high)) for low, high in zip(ends[:-1], ends[1:])])


def pieces_between(things, low, high):
    """The piece of some things, in a tuple of its own; the empty tuple if one of them has none."""
    pieces = [one.piece_between(low, high) for one in things]
    if any([piece is None for piece in pieces]):
        return ()
    return (tuple([told for piece in pieces for told in piece]),)
