"""Sets of numbers: tuples of integers from 0 on that ascend strictly."""

from spiralsays.checks import is_list, is_within


def sets_of(many, size):
    """All sets of this size of numbers below many, in the order of tuples."""
    found = [()]
    for _ in range(size):
        found = [one + (number,) for one in found for number in range(one[-1] + 1 if len(one) > 0 else 0, many)]
    return found


def sets_up_to(many, most):
    """All sets of up to so many numbers below many, those with fewer first."""
    return [one for size in range(most + 1) for one in sets_of(many, size)]


def is_set(value, many):
    """Whether any value is a set of numbers below many."""
    if not is_list(value) or not all([is_within(number, 0, many - 1) for number in value]):
        return False
    return all([one < other for one, other in zip(value[:-1], value[1:])])


def told_at(told, numbers):
    """The told ones of these numbers alone."""
    return tuple([told[number] for number in numbers])


def told_without(told, numbers):
    """All told ones but those of these numbers."""
    return tuple([one for number, one in enumerate(told) if number not in numbers])
