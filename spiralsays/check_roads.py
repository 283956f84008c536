"""Whether any value is what sure_road may return."""

from spiralsays.books import need_book
from spiralsays.check_words import BookProof
from spiralsays.fits import told_at_least, told_at_most
from spiralsays.ratios import Ratio
from spiralsays.roads import Road, net_at, turns_of
from spiralsays.sayings import TurnAbove, TurnBelow
from spiralsays.turns import Ended, Roadless, SureRoad


def shows_road(book, value):
    need_book(book, "book")
    return is_road_over(BookProof(book.told), value)


def is_road_over(proof, value):
    """Whether any value is the road of all turns of what keeps told ones."""
    if isinstance(value, SureRoad):
        return is_sure_road(proof, value)
    if isinstance(value, Ended):
        return is_ended(proof, value)
    if not isinstance(value, Roadless) or not are_two_turns(proof, value.one, value.other):
        return False
    # The least whole number from the one turn on.
    return not Ratio.of(value.other.turn).is_below(-(-Ratio.of(value.one.turn)).below)


def are_two_turns(proof, one, other):
    """Whether any two values keep the told ones, the turn of one below that of other."""
    return proof.keeps(one) and proof.keeps(other) and Ratio.of(one.turn).is_below(other.turn)


def is_sure_road(proof, paper):
    if not isinstance(paper.road, Road) or paper.road.kind != "open":
        return False
    low, high = turns_of(paper.road)
    if not proof.shows((told_at_most(low),), paper.low_paper):
        return False
    if not proof.shows((told_at_least(high),), paper.high_paper):
        return False
    if not are_two_turns(proof, paper.one, paper.other):
        return False
    middle = net_at(paper.road).third.corner
    return not middle.is_below(paper.one.turn) and not Ratio.of(paper.other.turn).is_below(middle)


def is_ended(proof, paper):
    if not isinstance(paper.road, Road) or paper.road.kind not in ("edge", "ended"):
        return False
    turn = turns_of(paper.road)[0]
    if not proof.keeps(paper.stem) or not proof.shows(TurnBelow(turn).told, paper.low_paper):
        return False
    return proof.shows(TurnAbove(turn).told, paper.high_paper)
