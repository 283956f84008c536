"""What may be asked of any value."""

from spiralsays.errors import BadNumber

LETTERS = "abcdefghijklmnopqrstuvwxyz"
DIGITS = "0123456789"
LONGEST_NAME = 12


def is_integer(value):
    return isinstance(value, int) and not isinstance(value, bool)


def is_within(value, least, most):
    """Whether any value is an integer from least to most, None being no bound."""
    if not is_integer(value):
        return False
    return (least is None or value >= least) and (most is None or value <= most)


def is_name(value):
    if not isinstance(value, str) or not 1 <= len(value) <= LONGEST_NAME:
        return False
    return value[0] in LETTERS and all([sign in LETTERS + DIGITS for sign in value])


def is_list(value):
    """Lists and tuples stand for one another wherever a list is told."""
    return isinstance(value, (list, tuple))


def need_integer(value, part):
    if not is_integer(value):
        raise BadNumber(part)


def need_within(value, least, most, part):
    if not is_within(value, least, most):
        raise BadNumber(part)
