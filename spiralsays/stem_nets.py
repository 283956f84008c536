"""The nets of a stem, its nearest two and its shortest steps."""

from math import lcm

from spiralsays.checks import need_within
from spiralsays.nets import Net
from spiralsays.pairs import cross
from spiralsays.stems import need_stem
from spiralsays.steps import Step

MOST_STEPS = 40


def nets_of(stem):
    one, other = nearest_two(stem)
    product = stem.product(one, other).sign
    if product < 0:
        return (net_with_sum(one, other),)
    if product > 0:
        return (net_with_difference(one, other),)
    return in_order(net_with_sum(one, other), net_with_difference(one, other))


def in_order(one, other):
    """Two nets side by side: their levels are unlike, but for two strips, which have the level 0."""
    if (one.level, one.low.rounds) < (other.level, other.low.rounds):
        return (one, other)
    return (other, one)


def net_with_sum(one, other):
    """The net of two upward neighbours and their sum."""
    return Net(one, other) if cross(one, other) == 1 else Net(other, one)


def net_with_difference(one, other):
    """The net of two upward neighbours, of which one is the sum of the other and the third step."""
    rest = (one - other).upward
    return net_with_sum(other, rest) if other + rest == one else net_with_sum(one, rest)


def nearest_two(stem):
    """Two upward steps; the longer one is shortened by the shorter one until that does no more."""
    need_stem(stem, "stem")
    ahead, mixed, back = measures(stem)
    one, other = (1, 0), (0, 1)
    while True:
        # At hand are the square of one, the product and the square of other, so many times.
        if ahead > back:
            one, other = other, one
            ahead, back = back, ahead
        times = (2 * mixed + ahead) // (2 * ahead)
        if times == 0:
            return (Step(one[0], one[1]).upward, Step(other[0], other[1]).upward)
        other = (other[0] - times * one[0], other[1] - times * one[1])
        back = back - 2 * times * mixed + times * times * ahead
        mixed = mixed - times * ahead


def measures(stem):
    """The square of (1, 0), its product with the round and the round's square, all so many times."""
    many = lcm(stem.turn.bottom, stem.squared.bottom)
    turn = stem.turn * many
    squared = stem.squared * many
    return (squared.top, -turn.top, many)


def by_length(stem, many):
    need_stem(stem, "stem")
    need_within(many, 1, MOST_STEPS, "many")
    found = sorted(short_steps(stem, many))
    return tuple([Step(studs, rounds) for square, studs, rounds in found[:many]])


def short_steps(stem, many):
    """All upward steps that are no longer than many times the shortest one, with their squares."""
    one, other = nearest_two(stem)
    times = lcm(stem.turn.bottom, stem.squared.bottom)
    square = (stem.square(one) * times).top
    product = (stem.product(one, other) * times).top
    other_square = (stem.square(other) * times).top
    longest = many * many * square
    found = [(count * count * square, one * count) for count in range(1, many + 1)]
    across = 1
    # Of a step the part at a right angle to one is as many times that of other.
    while across * across * (square * other_square - product * product) <= longest * square:
        middle = -across * product // square
        for along in range(middle - many, middle + many + 2):
            length = along * along * square + 2 * along * across * product + across * across * other_square
            if length <= longest:
                found.append((length, other * across if along == 0 else one * along + other * across))
        across += 1
    return [(length, step.upward.studs, step.upward.rounds) for length, step in found]
