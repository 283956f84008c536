"""How great the rise can be."""

from spiralsays.errors import Unlike
from spiralsays.fits import fit, need_possible, weights_of
from spiralsays.limits import limits_of
from spiralsays.papers import Denial, Paper
from spiralsays.solving import Summit, bound_at, pairs_at, solved, squared_at, turn_at
from spiralsays.stems import Stem
from spiralsays.steps import Step


class Highest(Paper):
    """The rows times their weights add up to bound - square (step) / (studs studs)."""

    def __init__(self, bound, weights, step):
        super().__init__("highest", bound, weights, step)
        self.bound, self.weights, self.step = self.parts


class Endless(Paper):
    def __init__(self, stem):
        super().__init__("endless", stem)
        self.stem = self.parts[0]


class Reached(Paper):
    def __init__(self, stem):
        super().__init__("reached", stem)
        self.stem = self.parts[0]


class NotReached(Denial):
    def __init__(self, number):
        super().__init__("notreached", number)
        self.number = self.parts[0]


def greatest_rise(book):
    need_possible(book)
    found = solved(limits_of(book.told))
    if not isinstance(found, Summit):
        return Endless(fit(book).stem)
    turn = turn_at(found.spot)
    return Highest(bound_at(found.spot), weights_of(len(book), pairs_at(found)), Step(turn.bottom, turn.top))


def reached(book):
    need_possible(book)
    found = solved(limits_of(book.told))
    if not isinstance(found, Summit):
        raise Unlike("rise")
    place = Stem(turn_at(found.spot), squared_at(found.spot))
    for number, one in enumerate(book.told):
        if not one.holds(place):
            return NotReached(number)
    return Reached(place)
