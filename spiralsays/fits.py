"""Whether a book is possible: a stem that keeps it, or a sum that denies it; the simplest turn."""

from math import gcd

from spiralsays.books import need_book
from spiralsays.errors import Impossible
from spiralsays.fractions import parents
from spiralsays.limits import limits_of
from spiralsays.papers import Denial, Paper
from spiralsays.ratios import Ratio, added, need_ratio
from spiralsays.room import simplest_stem
from spiralsays.rows import Row, Told
from spiralsays.solving import Never, Summit, bound_at, pairs_at, solved, turn_at, turn_place
from spiralsays.steps import Step


class Kept(Paper):
    def __init__(self, stem):
        super().__init__("kept", stem)
        self.stem = self.parts[0]


class Simplest(Paper):
    def __init__(self, turn, stem, low, high):
        super().__init__("simplest", turn, stem, low, high)
        self.turn, self.stem, self.low, self.high = self.parts


class OneStep(Denial):
    """The rows times their weights add up to - times square (step) - rest."""

    def __init__(self, weights, step, times, rest):
        super().__init__("onestep", weights, step, times, rest)
        self.weights, self.step, self.times, self.rest = self.parts


def fit(book):
    need_book(book, "book")
    return fit_of(book.told)


def need_possible(book):
    need_book(book, "book")
    found = solved(limits_of(book.told))
    denial = denial_of(book.told, found)
    if denial is not None:
        raise Impossible(denial)


def simplest_turn(book):
    need_possible(book)
    stem = fit_of(book.told).stem
    low, high = simpler_beside(stem.turn)
    low_paper = None if low is None else fit_of(book.told + (told_at_most(low),))
    high_paper = None if high is None else fit_of(book.told + (told_at_least(high),))
    return Simplest(stem.turn, stem, low_paper, high_paper)


def with_turn_at_most(book, ratio):
    need_book(book, "book")
    return book.with_told(told_at_most(need_ratio(ratio, "ratio")))


def with_turn_at_least(book, ratio):
    need_book(book, "book")
    return book.with_told(told_at_least(need_ratio(ratio, "ratio")))


def told_at_most(ratio):
    return Told.least(Row(0, -1, ratio))


def told_at_least(ratio):
    return Told.least(Row(0, 1, -ratio))


def simpler_beside(turn):
    """The turns below and above which a simpler one than this would lie, None for a side without one."""
    if not turn.is_whole:
        return parents(turn)
    low = turn - 1 if turn.sign > 0 else None
    return (low, turn + 1 if turn.sign < 0 else None)


def fit_of(told):
    """A Kept of the simplest turn, or a OneStep, of some told ones, be there ever so many."""
    limits = limits_of(told)
    found = solved(limits)
    denial = denial_of(told, found)
    if denial is not None:
        return denial
    return Kept(simplest_stem(limits, turn_place(found)))


def is_possible(told):
    """Whether some stem keeps told ones, be there ever so many."""
    return leaves_any(solved(limits_of(told)))


def leaves_any(found):
    """Whether what was solved leaves a stem."""
    if isinstance(found, Never):
        return False
    return not isinstance(found, Summit) or bound_at(found.spot).sign > 0


def denial_of(told, found):
    """The OneStep of what was solved, None if a stem is left."""
    if leaves_any(found):
        return None
    if isinstance(found, Never):
        return sum_below(len(told), found.pairs)
    return step_below(len(told), found)


def sum_below(many, pairs):
    """The OneStep without a step, of limits that leave nothing at all."""
    common = 0
    for limit, weight in pairs:
        common = gcd(common, weight * limit.scale)
    rest = -sum([limit.c * weight for limit, weight in pairs])
    weights = weights_of(many, [(limit, Ratio(weight, common)) for limit, weight in pairs])
    return OneStep(weights, None, Ratio(0), Ratio(rest, common))


def step_below(many, summit):
    """The OneStep of limits that leave nothing inside; it is taken so many times that times is 1."""
    turn = turn_at(summit.spot)
    area = turn.bottom * turn.bottom
    weights = weights_of(many, [(limit, weight * area) for limit, weight in pairs_at(summit)])
    return OneStep(weights, Step(turn.bottom, turn.top), Ratio(1), bound_at(summit.spot) * -area)


def weights_of(many, pairs):
    """The weights of so many told ones, by the weights of their limits."""
    shares = [[] for number in range(many)]
    for limit, weight in pairs:
        shares[limit.number].append(weight * limit.scale)
    return [added(share) for share in shares]
