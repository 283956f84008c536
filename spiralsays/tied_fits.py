"""Whether heights are possible, and the words over them."""

from math import gcd

from spiralsays.blends import blends_of, solved_blends
from spiralsays.errors import BadSaying, Impossible
from spiralsays.fits import leaves_any
from spiralsays.heights import need_ends, need_height, need_heights, need_tie
from spiralsays.limits import limits_of
from spiralsays.links import links_of
from spiralsays.papers import Denial, Paper
from spiralsays.ratios import Ratio
from spiralsays.sayings import TurnAbove, TurnAtLeast, TurnAtMost, TurnBelow, TurnIs, need_saying
from spiralsays.simple import simplest_in
from spiralsays.solving import Never, bound_at, pairs_at, turn_at, turn_place
from spiralsays.stacks import stack_of
from spiralsays.steps import Step
from spiralsays.tied_rooms import TiedTurns, squares_at
from spiralsays.words import Both, word_among, word_over


class KeptHeights(Paper):
    """A turn, and an E for each height."""

    def __init__(self, turn, squares):
        super().__init__("keptheights", turn, squares)
        self.turn, self.squares = self.parts


class OneStepHeights(Denial):
    """The rows and ties times their weights add up to - times square (step) at each height, and - rest."""

    def __init__(self, weights, tie_weights, step, times, rest):
        super().__init__("onestepheights", weights, tie_weights, step, times, rest)
        self.weights, self.tie_weights, self.step, self.times, self.rest = self.parts


class HeightGround:
    """Heights, and a height at which is asked: what is put in stands there, behind all others."""

    def __init__(self, stack, height):
        self.stack = stack
        self.height = height

    def fit_with(self, more):
        return fit_of_stack(self.stack.put_in(self.height, more))

    def held(self, paper):
        return paper

    def widened(self, paper, many):
        lines = list(paper.weights)
        lines[self.height] = lines[self.height] + (Ratio(0),) * many
        return OneStepHeights(lines, paper.tie_weights, paper.step, paper.times, paper.rest)


class TieGround:
    """Heights of which a tie is asked."""

    def __init__(self, stack):
        self.stack = stack

    def fit_with(self, more):
        return fit_of_stack(self.stack.put_in_ties(more))

    def held(self, paper):
        return paper


def fit_heights(heights):
    need_heights(heights, "heights")
    return fit_of_stack(stack_of(heights))


def need_possible_heights(heights):
    found = fit_of_stack(stack_of(heights))
    if not found:
        raise Impossible(found)


def word_heights(heights, height, saying):
    need_heights(heights, "heights")
    need_height(heights, height)
    need_saying(saying, "saying")
    need_possible_heights(heights)
    return word_over(HeightGround(stack_of(heights), height), saying.told)


def word_turn(heights, saying):
    need_heights(heights, "heights")
    if not isinstance(saying, (TurnAtMost, TurnAtLeast, TurnBelow, TurnAbove, TurnIs)):
        raise BadSaying("saying")
    return word_heights(heights, 0, saying)


def word_tie(heights, tie):
    need_heights(heights, "heights")
    need_tie(tie, "tie")
    need_ends(tie, len(heights))
    need_possible_heights(heights)
    return word_over(TieGround(stack_of(heights)), (tie,))


def is_surer(heights, height, saying):
    if isinstance(word_heights(heights, height, saying), Both):
        return False
    return isinstance(word_among(heights.books[height].told, saying.told), Both)


def fit_of_stack(stack):
    """A KeptHeights of the simplest turn, or a OneStepHeights."""
    limits = [limits_of(line) for line in stack.told]
    links = links_of(len(stack.told), stack.ties)
    found = solved_blends(blends_of(limits, links))
    if isinstance(found, Never):
        return sum_below(stack, found.pairs)
    if not leaves_any(found):
        return step_below(stack, found)
    turn = simplest_in(TiedTurns(limits, links, turn_place(found)))
    return KeptHeights(turn, squares_at(limits, links, turn))


def sum_below(stack, pairs):
    """The OneStepHeights without a step, of Blends that leave nothing at all."""
    common = 0
    for blend, weight in pairs:
        for share in blend.shares + blend.tie_shares:
            common = gcd(common, weight * share[-1])
    weights, tie_weights = added_up(stack, [(blend, Ratio(weight, common)) for blend, weight in pairs])
    rest = -sum([blend.c * weight for blend, weight in pairs])
    return OneStepHeights(weights, tie_weights, None, [Ratio(0)] * len(stack.told), Ratio(rest, common))


def step_below(stack, summit):
    """The OneStepHeights of Blends that leave nothing inside; all times together are 1."""
    turn = turn_at(summit.spot)
    area = turn.bottom * turn.bottom
    pairs = pairs_at(summit)
    weights, tie_weights = added_up(stack, [(blend, weight * area) for blend, weight in pairs])
    times = [Ratio(0)] * len(stack.told)
    for blend, weight in pairs:
        if blend.a < 0:
            # It is a limit of one height's own E, by which the least E was exchanged.
            height = blend.shares[0][0]
            times[height] = times[height] - weight * blend.a
    return OneStepHeights(weights, tie_weights, Step(turn.bottom, turn.top), times, bound_at(summit.spot) * -area)


def added_up(stack, pairs):
    """The weights of the told ones, a line for each height, and of the ties, by the weights of Blends."""
    weights = [[Ratio(0)] * len(line) for line in stack.told]
    tie_weights = [Ratio(0)] * len(stack.ties)
    for blend, weight in pairs:
        for height, number, many in blend.shares:
            weights[height][number] = weights[height][number] + weight * many
        for number, many in blend.tie_shares:
            tie_weights[number] = tie_weights[number] + weight * many
    return (weights, tie_weights)
