"""The stretches of turns and of squares that limits leave, and their simplest stem."""

from spiralsays.ratios import sign_of
from spiralsays.simple import simplest_in
from spiralsays.stems import Stem


class End:
    """An end of a stretch, top over bottom, the bottom above 0; whether it belongs to it."""

    def __init__(self, top, bottom, is_in):
        self.top = top
        self.bottom = bottom
        self.is_in = is_in


class Squares:
    """All E above D D that some limits leave at the turn D, top over bottom; high is None without an end."""

    def __init__(self, limits, top, bottom):
        self.low = End(top * top, bottom * bottom, False)
        self.high = None
        self.is_barred = False
        for limit in limits:
            self.narrow(limit, limit.b * top + limit.c * bottom, bottom)

    def narrow(self, limit, worth, bottom):
        """A limit leaves the E with which a times bottom times E, and worth, are at least 0 or above."""
        if limit.a > 0:
            self.rise_to(End(-worth, limit.a * bottom, limit.strict == 0))
        elif limit.a < 0:
            self.sink_to(End(worth, -limit.a * bottom, limit.strict == 0))
        elif worth < 0 or (worth == 0 and limit.strict == 1):
            self.is_barred = True

    def rise_to(self, end):
        """Nothing below this end is left."""
        far = compared_ends(end, self.low)
        if far > 0 or (far == 0 and not end.is_in):
            self.low = end

    def sink_to(self, end):
        """Nothing above this end is left."""
        far = -1 if self.high is None else compared_ends(end, self.high)
        if far < 0 or (far == 0 and not end.is_in):
            self.high = end

    def is_empty(self):
        if self.is_barred or self.high is None:
            return self.is_barred
        far = compared_ends(self.low, self.high)
        return far > 0 or (far == 0 and not (self.low.is_in and self.high.is_in))

    def side_of(self, top, bottom):
        asked = End(top, bottom, True)
        far = compared_ends(asked, self.low)
        if far < 0 or (far == 0 and not self.low.is_in):
            return -1
        if self.high is None:
            return 0
        far = compared_ends(asked, self.high)
        return 1 if far > 0 or (far == 0 and not self.high.is_in) else 0


class Turns:
    """All turns of the stems that some limits leave; at hand is the place of one, perhaps by a trifle."""

    def __init__(self, limits, at_hand):
        self.limits = limits
        self.at_hand = at_hand

    def side_of(self, top, bottom):
        if not Squares(self.limits, top, bottom).is_empty():
            return 0
        return side_of_place(self.at_hand, top, bottom)


def side_of_place(place, top, bottom):
    """-1 or 1, as a ratio lies below or above the place, be it by a trifle."""
    far = top * place.bottom - place.number * bottom
    return sign_of(far) if far != 0 else -sign_of(place.drift)


def compared_ends(one, other):
    return sign_of(one.top * other.bottom - other.top * one.bottom)


def simplest_stem(limits, at_hand):
    """Of the stems that limits leave one with the simplest turn, and with the simplest square there."""
    turn = simplest_in(Turns(limits, at_hand))
    return Stem(turn, simplest_in(Squares(limits, turn.top, turn.bottom)))
