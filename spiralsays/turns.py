"""The road of a book: the way of the nets that all its turns have in common."""

from spiralsays.fits import need_possible, told_at_least, told_at_most
from spiralsays.fractions import parents, runs_of
from spiralsays.papers import Denial, Paper
from spiralsays.roads import Road, road_of
from spiralsays.sayings import TurnAbove, TurnBelow
from spiralsays.words import BookGround


class SureRoad(Paper):
    """The longest open road of all turns; no turn is at its low end or below, at its high end or above."""

    def __init__(self, road, low_paper, high_paper, one, other):
        super().__init__("sureroad", road, low_paper, high_paper, one, other)
        self.road, self.low_paper, self.high_paper, self.one, self.other = self.parts


class Ended(Paper):
    """The road of the one turn that is left."""

    def __init__(self, road, low_paper, high_paper, stem):
        super().__init__("ended", road, low_paper, high_paper, stem)
        self.road, self.low_paper, self.high_paper, self.stem = self.parts


class Roadless(Denial):
    """Two stems, and a whole number from the turn of the one to that of the other."""

    def __init__(self, one, other):
        super().__init__("roadless", one, other)
        self.one, self.other = self.parts


def sure_road(book):
    need_possible(book)
    return road_over(BookGround(book.told))


def road_over(ground):
    """The road of all turns over a ground that is possible."""
    here = ground.held(ground.fit_with(()))
    turn = here.turn
    below = ground.fit_with(TurnBelow(turn).told)
    above = ground.fit_with(TurnAbove(turn).told)
    if not below and not above:
        return Ended(road_of(turn), below, above, here)
    one, other = (ground.held(below), here) if below else (here, ground.held(above))
    if turn.is_whole:
        return Roadless(one, other)
    # All turns lie between the parents of the simplest one, and this is where the letters part.
    low, high = parents(turn)
    low_paper = ground.fit_with((told_at_most(low),))
    high_paper = ground.fit_with((told_at_least(high),))
    return SureRoad(Road(turn.below, runs_of(turn), "open"), low_paper, high_paper, one, other)
