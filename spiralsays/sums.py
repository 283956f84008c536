"""Adding up: whether rows times weights make what a paper says."""

from spiralsays.checks import is_list
from spiralsays.fits import OneStep
from spiralsays.ratios import Ratio, is_ratio
from spiralsays.rows import Row
from spiralsays.steps import Step


def is_not_below(value):
    """Whether any value is a ratio from 0 on."""
    return is_ratio(value) and not Ratio.of(value).is_below(0)


def are_weights(told, value):
    """Whether any value is a ratio for each told one, those of least and above ones from 0 on."""
    if not is_list(value) or len(value) != len(told):
        return False
    return all([
        is_ratio(weight) and (one.kind == "zero" or is_not_below(weight))
        for one, weight in zip(told, value)
    ])


def weighted(told, weights):
    """The sum of the rows times their weights."""
    total = Row(0, 0, 0)
    for one, weight in zip(told, weights):
        total = total + one.row * weight
    return total


def is_step_with_studs(value):
    """Whether any value is a step with studs above 0."""
    return isinstance(value, Step) and value.studs > 0


def is_right(told, value):
    """Whether any value is a right OneStep of these told ones."""
    if not isinstance(value, OneStep) or not are_weights(told, value.weights):
        return False
    if not is_not_below(value.times) or not is_not_below(value.rest):
        return False
    if Ratio.of(value.times).sign == 0:
        if value.step is not None:
            return False
        due = Row(0, 0, -Ratio.of(value.rest))
    else:
        if not is_step_with_studs(value.step):
            return False
        due = Row.of_square(value.step) * -Ratio.of(value.times) - Row(0, 0, value.rest)
    return weighted(told, value.weights) == due and says_below(told, value)


def says_below(told, paper):
    """Whether the sum of a OneStep denies that all told ones hold."""
    if paper.times != 0 or paper.rest != 0:
        return True
    return any([one.kind == "above" and weight != 0 for one, weight in zip(told, paper.weights)])
