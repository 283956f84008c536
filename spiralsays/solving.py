"""The pair (D, E) that limits leave where E - D D is greatest.

The limits are added one by one. While the place found keeps the next one, it
stays; otherwise the next place lies where this limit is 0, and only what the
limits ahead leave of that line is looked at. Either two limits hold the place,
or three leave nothing: with weights from 0 on they say so by adding up.
"""

from spiralsays.cuts_on_lines import Place, Span, cut_of_turns, cut_on
from spiralsays.ratios import Ratio


class Spot:
    """A pair (D, E), each a number and a drift over one bottom, as places of lines are."""

    def __init__(self, turn, turn_drift, squared, squared_drift, bottom):
        self.turn = turn
        self.turn_drift = turn_drift
        self.squared = squared
        self.squared_drift = squared_drift
        self.bottom = bottom

    def keeps(self, limit):
        worth = limit.a * self.squared + limit.b * self.turn + limit.c * self.bottom
        if worth != 0:
            return worth > 0
        return limit.a * self.squared_drift + limit.b * self.turn_drift >= limit.strict * self.bottom


class Never:
    """The limits leave nothing: pairs (limit, weight) that add up to a number below 0, be it by a trifle."""

    def __init__(self, pairs):
        self.pairs = pairs


class Boundless:
    """E has no bound; turns is the place of a D that is left."""

    def __init__(self, turns):
        self.turns = turns


class Summit:
    """The spot where E - D D is greatest, and the one or two limits that hold it there."""

    def __init__(self, spot, holders):
        self.spot = spot
        self.holders = holders


def turn_at(spot):
    return Ratio(spot.turn, spot.bottom)


def squared_at(spot):
    return Ratio(spot.squared, spot.bottom)


def bound_at(spot):
    return squared_at(spot) - turn_at(spot) * turn_at(spot)


def turn_place(found):
    """The place of a turn that is left, of a Summit or a Boundless."""
    if isinstance(found, Summit):
        return Place(found.spot.turn, found.spot.turn_drift, found.spot.bottom)
    return found.turns


def pairs_at(summit):
    """The holders with weights: they add up to the bound, less E - 2 turn D + turn turn."""
    double = turn_at(summit.spot) * 2
    first = summit.holders[0]
    if len(summit.holders) == 1:
        return [(first, Ratio(-1, first.a))]
    second = summit.holders[1]
    area = first.a * second.b - second.a * first.b
    one = (-(double * second.a) - second.b).over(area)
    return [(first, one), (second, (double * first.a + first.b).over(area))]


def solved(limits):
    """A Summit, a Boundless or a Never."""
    bounding = [at for at, limit in enumerate(limits) if limit.a < 0]
    if len(bounding) == 0:
        return solved_without_end(limits)
    # A limit that bounds E comes first, so that there is a greatest E - D D all along.
    ordered = [limits[bounding[0]]] + limits[:bounding[0]] + limits[bounding[0] + 1:]
    found = solved_on(ordered[0], [])
    for at, limit in enumerate(ordered):
        if not found.spot.keeps(limit):
            found = solved_on(limit, ordered[:at])
            if isinstance(found, Never):
                return found
    return found


def solved_without_end(limits):
    """No limit bounds E: each one with an E is kept by a great one."""
    span = Span([cut_of_turns(limit) for limit in limits if limit.a == 0])
    if len(span.against) > 0:
        return Never([(cut.limit, weight * cut.own) for cut, weight in span.against])
    end = span.high if span.low is None else span.low
    return Boundless(Place(0, 0, 1) if end is None else end.place())


def solved_on(line, limits):
    """The Summit where the limit line is 0, or a Never."""
    if line.a == 0 and line.b == 0:
        return Never([(line, 1)])
    span = Span([cut_on(limit, line) for limit in limits])
    if len(span.against) > 0:
        shared = sum([weight * cut.shared for cut, weight in span.against])
        return Never([(line, shared)] + [(cut.limit, weight * cut.own) for cut, weight in span.against])
    if line.a == 0:
        return Summit(upright_spot(line, span.high.place()), [line, span.high.limit])
    best = Place(-line.b, 0, 2 * line.a) if line.a > 0 else Place(line.b, 0, -2 * line.a)
    if span.low is not None and span.low.place().is_beyond(best):
        return Summit(slanting_spot(line, span.low.place()), [line, span.low.limit])
    if span.high is not None and best.is_beyond(span.high.place()):
        return Summit(slanting_spot(line, span.high.place()), [line, span.high.limit])
    return Summit(slanting_spot(line, best), [line])


def upright_spot(line, squared):
    """The spot with this place as E on a line that tells D alone."""
    many = abs(line.b)
    turn = Place(-line.c, line.strict, line.b) if line.b > 0 else Place(line.c, -line.strict, many)
    return Spot(
        turn.number * squared.bottom,
        turn.drift * squared.bottom,
        squared.number * many,
        squared.drift * many,
        many * squared.bottom,
    )


def slanting_spot(line, turn):
    """The spot with this place as D on a line that tells E by D."""
    many = abs(line.a)
    squared = line.b * turn.number + line.c * turn.bottom
    drift = line.b * turn.drift - line.strict * turn.bottom
    sign = -1 if line.a > 0 else 1
    return Spot(turn.number * many, turn.drift * many, sign * squared, sign * drift, many * turn.bottom)
