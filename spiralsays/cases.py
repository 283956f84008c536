"""The cases of counted things: the told ones of each, and what is put in when something is asked."""

from spiralsays.counted import Counted
from spiralsays.cuts import stretches_of
from spiralsays.errors import BadSaying
from spiralsays.fits import OneStep, fit_of
from spiralsays.ratios import Ratio
from spiralsays.sayings import Saying


class Case:
    """All told ones of a case, the book's too; lines of what is against the thing asked; wholes of what tells it."""

    def __init__(self, told, against, wholes):
        self.told = told
        self.against = against
        self.wholes = wholes
        self.paper = None

    def fit_with(self, more):
        """The paper with more put in; what denies the case alone denies it with more."""
        if self.paper is None:
            self.paper = fit_of(self.told)
        if self.paper:
            return fit_of(self.told + more)
        weights = self.paper.weights + (Ratio(0),) * len(more)
        return OneStep(weights, self.paper.step, self.paper.times, self.paper.rest)


def is_thing(asked):
    """Whether a counted thing is asked, no saying."""
    return isinstance(asked, Counted)


def need_asked(value, part):
    if not isinstance(value, (Saying, Counted)):
        raise BadSaying(part)


def told_of_cases(book, window, things):
    """All told ones of each case, those of the book first."""
    found = stretches_of(things, window, ())
    return [book.told + case for stretch in found for case in stretch.cases]


def cases_asked(book, window, things, asked):
    """The cases of some things, where a saying or a counted thing is asked; this one has its own cuts."""
    if not is_thing(asked):
        against = [[(contrary,) for contrary in one.contrary()] for one in asked.told]
        return [Case(told, against, [asked.told]) for told in told_of_cases(book, window, things)]
    found = []
    for stretch in stretches_of(things, window, (asked,)):
        piece = asked.piece_between(stretch.low, stretch.high)
        for case in stretch.cases:
            found.append(case_of_thing(book.told + case, piece))
    return found


def case_of_thing(told, piece):
    """Without a piece the thing does not hold at any post of the case."""
    if piece is None:
        return Case(told, [[()]], [])
    return Case(told, [[(contrary,) for one in piece for contrary in one.contrary()]], [piece])
