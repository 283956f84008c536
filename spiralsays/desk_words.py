"""The words of a desk's lines: names of values that it has, new names, numbers."""

from spiralsays.checks import is_name, is_within
from spiralsays.reader import kind_of


def take_new_name(words):
    name = words.take()
    if not is_name(name):
        words.refuse()
    return name


def take_name(words, kept):
    """A name that the desk has; kept has its values by their names."""
    name = words.take()
    if name not in kept:
        words.refuse()
    return name


def take_name_of(words, kept, kinds):
    """A name of a value of one of these kinds."""
    name = take_name(words, kept)
    if kind_of(kept[name]) not in kinds:
        words.refuse()
    return name


def take_kept(words, kept, kinds):
    """The value, of one of these kinds, that a name has."""
    return kept[take_name_of(words, kept, kinds)]


def take_from_zero(words, many):
    """An integer from 0 on, below many, if this is not None."""
    number = words.integer()
    if not is_within(number, 0, None if many is None else many - 1):
        words.refuse()
    return number


def joined_words(values):
    """The texts of some values, - for none."""
    return " ".join([str(value) for value in values]) if len(values) > 0 else "-"
