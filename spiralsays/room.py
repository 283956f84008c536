"""The stretches of turns and of squares that limits leave, and their simplest stem."""

from spiralsays.ratios import sign_of
from spiralsays.simple import simplest_in
from spiralsays.stems import Stem


class End:
    """An end of a stretch, top over bottom, the bottom above 0; whether it belongs to it."""

    def __init__(self, top, bottom, is_in):
        self.top = top
        self.bottom = bottom
        self.is_in = is_in


class Squares:
    """All E above D D that some limits leave at the turn D, top over bottom; high is None without an end."""

    def __init__(self, limits, top, bottom):
        self.low = End(top * top, bottom * bottom, False)
        self.high = None
        self.is_empty = False
        for limit in limits:
            self.narrow(limit, limit.b * top + limit.c * bottom, bottom)
        if self.high is not None and not self.is_empty:
            far = compared_ends(self.low, self.high)
            self.is_empty = far > 0 or (far == 0 and not (self.low.is_in and self.high.is_in))

    def narrow(self, limit, worth, bottom):
        """A limit leaves the E with which a times bottom times E, and worth, are at least 0 or above."""
        if limit.a == 0:
            if worth < 0 or (worth == 0 and limit.strict == 1):
                self.is_empty = True
            return
        end = End(-worth if limit.a > 0 else worth, abs(limit.a) * bottom, limit.strict == 0)
        if limit.a > 0:
            far = compared_ends(end, self.low)
            if far > 0 or (far == 0 and not end.is_in):
                self.low = end
        elif self.high is None:
            self.high = end
        else:
            far = compared_ends(self.high, end)
            if far > 0 or (far == 0 and not end.is_in):
                self.high = end

    def side_of(self, top, bottom):
        asked = End(top, bottom, True)
        far = compared_ends(asked, self.low)
        if far < 0 or (far == 0 and not self.low.is_in):
            return -1
        if self.high is None:
            return 0
        far = compared_ends(asked, self.high)
        return 1 if far > 0 or (far == 0 and not self.high.is_in) else 0


class Turns:
    """All turns of the stems that some limits leave; at hand is the place of one, perhaps by a trifle."""

    def __init__(self, limits, at_hand):
        self.limits = limits
        self.at_hand = at_hand

    def side_of(self, top, bottom):
        if not Squares(self.limits, top, bottom).is_empty:
            return 0
        far = top * self.at_hand.bottom - self.at_hand.number * bottom
        return sign_of(far) if far != 0 else -sign_of(self.at_hand.drift)


def compared_ends(one, other):
    return sign_of(one.top * other.bottom - other.top * one.bottom)


def simplest_stem(limits, at_hand):
    """Of the stems that limits leave one with the simplest turn, and with the simplest square there."""
    turn = simplest_in(Turns(limits, at_hand))
    return Stem(turn, simplest_in(Squares(limits, turn.top, turn.bottom)))
