"""Told ones that cannot be together."""

from spiralsays.errors import TooMany
from spiralsays.fits import fit, fit_of, is_possible
from spiralsays.number_sets import sets_up_to, told_at
from spiralsays.papers import Paper

MOST_TOLD = 12
MOST_NUMBERS = 3


class Clash(Paper):
    """Numbers of told ones, and the OneStep of these alone."""

    def __init__(self, numbers, paper):
        super().__init__("clash", numbers, paper)
        self.numbers, self.paper = self.parts


def clash(book):
    found = fit(book)
    if found:
        return found
    need_few_told(book)
    # Of pieces without dents of a plane three have nothing in common, if all have nothing.
    for numbers in sets_up_to(len(book), MOST_NUMBERS):
        told = told_at(book.told, numbers)
        if not is_possible(told):
            return Clash(numbers, fit_of(told))
    return None


def need_few_told(book):
    if len(book) > MOST_TOLD:
        raise TooMany("told", MOST_TOLD)
