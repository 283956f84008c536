"""Whether any value is what sure_road may return."""

from spiralsays.books import need_book
from spiralsays.fits import told_at_least, told_at_most
from spiralsays.roads import Road, net_at, turns_of
from spiralsays.sayings import TurnAbove, TurnBelow
from spiralsays.sums import is_right
from spiralsays.turns import Ended, Roadless, SureRoad


def shows_road(book, value):
    need_book(book, "book")
    if isinstance(value, SureRoad):
        return is_sure_road(book, value)
    if isinstance(value, Ended):
        return is_ended(book, value)
    if not isinstance(value, Roadless) or not are_two_turns(book, value.one, value.other):
        return False
    # The least whole number from the one turn on.
    return not value.other.turn.is_below(-(-value.one.turn).below)


def are_two_turns(book, one, other):
    """Whether any two values are stems that keep the book, the turn of one below that of other."""
    return one in book and other in book and one.turn.is_below(other.turn)


def is_sure_road(book, paper):
    if not isinstance(paper.road, Road) or paper.road.kind != "open":
        return False
    low, high = turns_of(paper.road)
    if not is_right(book.told + (told_at_most(low),), paper.low_paper):
        return False
    if not is_right(book.told + (told_at_least(high),), paper.high_paper):
        return False
    if not are_two_turns(book, paper.one, paper.other):
        return False
    middle = net_at(paper.road).third.corner
    return not middle.is_below(paper.one.turn) and not paper.other.turn.is_below(middle)


def is_ended(book, paper):
    if not isinstance(paper.road, Road) or paper.road.kind not in ("edge", "ended"):
        return False
    turn = turns_of(paper.road)[0]
    if paper.stem not in book:
        return False
    if not is_right(book.told + TurnBelow(turn).told, paper.low_paper):
        return False
    return is_right(book.told + TurnAbove(turn).told, paper.high_paper)
