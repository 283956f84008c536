"""The road of a book: the way of the nets that all its turns have in common."""

from spiralsays.fits import fit_of, simplest_turn
from spiralsays.fractions import runs_of
from spiralsays.papers import Denial, Paper
from spiralsays.roads import Road, road_of
from spiralsays.sayings import TurnAbove, TurnBelow


class SureRoad(Paper):
    """The longest open road of all turns; no turn is at its low end or below, at its high end or above."""

    def __init__(self, road, low_paper, high_paper, one, other):
        super().__init__("sureroad", road, low_paper, high_paper, one, other)
        self.road, self.low_paper, self.high_paper, self.one, self.other = self.parts


class Ended(Paper):
    """The road of the one turn that is left."""

    def __init__(self, road, low_paper, high_paper, stem):
        super().__init__("ended", road, low_paper, high_paper, stem)
        self.road, self.low_paper, self.high_paper, self.stem = self.parts


class Roadless(Denial):
    """Two stems, and a whole number from the turn of the one to that of the other."""

    def __init__(self, one, other):
        super().__init__("roadless", one, other)
        self.one, self.other = self.parts


def sure_road(book):
    simple = simplest_turn(book)
    stem, turn = simple.stem, simple.turn
    below = fit_of(book.told + TurnBelow(turn).told)
    above = fit_of(book.told + TurnAbove(turn).told)
    if not below and not above:
        return Ended(road_of(turn), below, above, stem)
    one, other = (below.stem, stem) if below else (stem, above.stem)
    if turn.is_whole:
        return Roadless(one, other)
    # All turns lie between the parents of the simplest one, and this is where the letters part.
    return SureRoad(Road(turn.below, runs_of(turn), "open"), simple.low, simple.high, one, other)
