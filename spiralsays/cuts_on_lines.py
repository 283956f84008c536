"""What limits leave of a straight line, and what of the line of turns.

A place on a line is a number and a drift: it is number + drift times a trifle,
over bottom, the trifle being as little above 0 as you like. So strict limits
are looked at like all others.
"""


class Place:
    """(number + drift trifles) / bottom, the bottom above 0."""

    def __init__(self, number, drift, bottom):
        self.number = number
        self.drift = drift
        self.bottom = bottom

    def is_beyond(self, other):
        ahead = self.number * other.bottom - other.number * self.bottom
        if ahead != 0:
            return ahead > 0
        return self.drift * other.bottom > other.drift * self.bottom


class Cut:
    """A limit, own times, and the line's own limit, shared times, together: slope x + rest - drift trifles."""

    def __init__(self, limit, own, shared, slope, rest, drift):
        self.limit = limit
        self.own = own
        self.shared = shared
        self.slope = slope
        self.rest = rest
        self.drift = drift

    def place(self):
        """Where it becomes 0."""
        if self.slope > 0:
            return Place(-self.rest, self.drift, self.slope)
        return Place(self.rest, -self.drift, -self.slope)


def cut_of_turns(limit):
    """What a limit without an E says of D."""
    return Cut(limit, 1, 0, limit.b, limit.c, limit.strict)


def cut_on(limit, line):
    """What a limit says of D on the line where another one is 0; of E, if this line is upright."""
    lead, side = (line.a, line.b) if line.a != 0 else (line.b, 0)
    own_lead, own_side = (limit.a, limit.b) if line.a != 0 else (limit.b, limit.a)
    own = abs(lead)
    shared = -own_lead if lead > 0 else own_lead
    slope = own * own_side + shared * side
    rest = own * limit.c + shared * line.c
    return Cut(limit, own, shared, slope, rest, own * limit.strict + shared * line.strict)


class Span:
    """What some cuts leave: from the cut low to the cut high, None for no end.

    Nothing is left if against has pairs (cut, weight) that add up to a number
    below 0, be it by a trifle.
    """

    def __init__(self, cuts):
        self.low = None
        self.high = None
        self.against = []
        for cut in cuts:
            self.narrow(cut)
        if self.low is not None and self.high is not None and len(self.against) == 0:
            if self.low.place().is_beyond(self.high.place()):
                self.against = [(self.low, -self.high.slope), (self.high, self.low.slope)]

    def narrow(self, cut):
        if cut.slope == 0:
            if cut.rest < 0 or (cut.rest == 0 and cut.drift > 0):
                self.against = [(cut, 1)]
        elif cut.slope > 0:
            if self.low is None or cut.place().is_beyond(self.low.place()):
                self.low = cut
        elif self.high is None or self.high.place().is_beyond(cut.place()):
            self.high = cut
