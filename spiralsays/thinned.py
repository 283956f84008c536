"""Stems, rows, told ones, books and sayings of a post that is thinned out or made thick."""

from spiralsays.books import Book
from spiralsays.checks import need_within
from spiralsays.errors import BadSaying
from spiralsays.ratios import Ratio
from spiralsays.rows import Row, Told
from spiralsays.sayings import Rows, Saying
from spiralsays.stems import Stem
from spiralsays.steps import Step


def thinned(value, many):
    """Of the post that has just the studs whose numbers are multiples of many."""
    need_stretchable(value)
    need_within(many, 1, None, "many")
    return stretched(value, Ratio(many))


def thick(value, many):
    """Of the post of which, thinned out by many, the told one is left."""
    if not isinstance(value, Step):
        need_stretchable(value)
    need_within(many, 1, None, "many")
    if isinstance(value, Step):
        return Step(value.studs * many, value.rounds)
    return stretched(value, Ratio(1, many))


def need_stretchable(value):
    if not isinstance(value, (Stem, Row, Told, Book, Saying)):
        raise BadSaying("value")


def stretched(value, times):
    """The same, told of the post whose turn is so many times as great, its rise too."""
    if isinstance(value, Stem):
        return Stem(value.turn * times, value.squared * times * times)
    if isinstance(value, Row):
        return Row(value.a.over(times * times), value.b.over(times), value.c)
    if isinstance(value, Told):
        return Told(value.kind, stretched(value.row, times))
    told = [stretched(one, times) for one in value.told]
    return Book(told) if isinstance(value, Book) else Rows(told)
