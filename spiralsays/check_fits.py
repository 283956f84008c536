"""Whether any value is a paper that fit, simplest_turn or greatest_rise may return."""

from spiralsays.books import need_book
from spiralsays.fits import Kept, Simplest, simpler_beside, told_at_least, told_at_most
from spiralsays.ratios import Ratio, is_ratio
from spiralsays.rises import Endless, Highest
from spiralsays.rows import Row, bounds_squared
from spiralsays.stems import Stem
from spiralsays.sums import are_weights, is_right, is_step_with_studs, weighted


def shows_fit(book, value):
    need_book(book, "book")
    if isinstance(value, Kept):
        return value.stem in book
    return is_right(book.told, value)


def shows_simplest(book, value):
    need_book(book, "book")
    if not isinstance(value, Simplest) or not is_ratio(value.turn):
        return False
    if value.stem not in book or value.stem.turn != value.turn:
        return False
    low, high = simpler_beside(Ratio.of(value.turn))
    low_put_in = None if low is None else told_at_most(low)
    high_put_in = None if high is None else told_at_least(high)
    return shows_none_beside(book, low_put_in, value.low) and shows_none_beside(book, high_put_in, value.high)


def shows_none_beside(book, put_in, value):
    """Whether a value denies the book with what is put in, or is None where nothing is."""
    if put_in is None:
        return value is None
    return is_right(book.told + (put_in,), value)


def shows_rise(book, value):
    need_book(book, "book")
    if isinstance(value, Endless):
        return value.stem in book and not any([bounds_squared(one) for one in book.told])
    return isinstance(value, Highest) and is_highest(book, value)


def is_highest(book, paper):
    if not is_ratio(paper.bound) or not is_step_with_studs(paper.step):
        return False
    bound = Ratio.of(paper.bound)
    if bound.sign <= 0 or not are_weights(book.told, paper.weights):
        return False
    turn = paper.step.corner
    due = Row(-1, turn * 2, bound - turn * turn)
    return weighted(book.told, paper.weights) == due and is_at_place(book, Stem(turn, bound + turn * turn))


def is_at_place(book, place):
    """Whether each zero row is 0 at the place, and each other one at least 0."""
    return all([
        one.row.at(place).sign == 0 if one.kind == "zero" else one.row.at(place).sign >= 0
        for one in book.told
    ])
