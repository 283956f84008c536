"""Whether any value is right for heights: adding up height by height, and what keeps them."""

from spiralsays.checks import is_list
from spiralsays.heights import is_kept_tie
from spiralsays.ratios import Ratio, added, is_ratio
from spiralsays.stems import Stem
from spiralsays.sums import are_weights, is_not_below, is_step_with_studs, weighted
from spiralsays.tied_fits import KeptHeights, OneStepHeights


class HeightProof:
    """What is shown of a height: of what is put in there, of what keeps the heights, of what holds there."""

    def __init__(self, stack, height):
        self.stack = stack
        self.height = height

    def shows(self, more, value):
        return is_right_tied(self.stack.put_in(self.height, more), value)

    def keeps(self, value):
        return is_kept_tied(self.stack, value)

    def has(self, asked, value):
        """Whether told ones hold at the height, by a value that keeps the heights."""
        stem = stem_at(value, self.height)
        return all([one.holds(stem) for one in asked])


class TieProof:
    """The same of ties that are put in."""

    def __init__(self, stack):
        self.stack = stack

    def shows(self, more, value):
        return is_right_tied(self.stack.put_in_ties(more), value)

    def keeps(self, value):
        return is_kept_tied(self.stack, value)

    def has(self, asked, value):
        return all([is_kept_tie(one, value.squares) for one in asked])


def stem_at(value, height):
    return Stem(value.turn, value.squares[height])


def is_kept_tied(stack, value):
    """Whether any value is a KeptHeights whose ratios keep told ones and ties."""
    if not isinstance(value, KeptHeights) or not is_ratio(value.turn) or not is_list(value.squares):
        return False
    if len(value.squares) != len(stack.told) or not all([is_ratio(one) for one in value.squares]):
        return False
    area = Ratio.of(value.turn) * value.turn
    if not all([area.is_below(one) for one in value.squares]):
        return False
    for height, line in enumerate(stack.told):
        stem = stem_at(value, height)
        if not all([one.holds(stem) for one in line]):
            return False
    return all([is_kept_tie(tie, value.squares) for tie in stack.ties])


def is_right_tied(stack, value):
    """Whether any value is a right OneStepHeights of told ones and ties."""
    if not isinstance(value, OneStepHeights) or not are_lines(stack, value) or not is_not_below(value.rest):
        return False
    if added(value.times).sign == 0:
        if value.step is not None:
            return False
    elif not is_step_with_studs(value.step):
        return False
    return adds_up(stack, value) and says_below_tied(stack, value)


def are_lines(stack, paper):
    """Whether the weights and the times are ratios as they must be, as many as they must be."""
    if not is_list(paper.weights) or len(paper.weights) != len(stack.told):
        return False
    if not all([are_weights(line, weights) for line, weights in zip(stack.told, paper.weights)]):
        return False
    if not are_weights(stack.ties, paper.tie_weights):
        return False
    if not is_list(paper.times) or len(paper.times) != len(stack.told):
        return False
    return all([is_not_below(one) for one in paper.times])


def adds_up(stack, paper):
    """Whether the sums are as due: of E height by height, of D and of 1 all together."""
    sums = [weighted(line, weights) for line, weights in zip(stack.told, paper.weights)]
    total = added(paper.times)
    studs, rounds = (0, 0) if paper.step is None else (paper.step.studs, paper.step.rounds)
    for height, row in enumerate(sums):
        if row.a + tied_weight(stack, paper, height) != Ratio.of(paper.times[height]) * (-studs * studs):
            return False
    if added([row.b for row in sums]) != total * (2 * studs * rounds):
        return False
    return added([row.c for row in sums]) == total * (-rounds * rounds) - paper.rest


def tied_weight(stack, paper, height):
    """How often the ties have the E of a height, by their weights."""
    own = [weight for tie, weight in zip(stack.ties, paper.tie_weights) if tie.one == height]
    less = [weight for tie, weight in zip(stack.ties, paper.tie_weights) if tie.other == height]
    return added(own) - added(less)


def says_below_tied(stack, paper):
    """Whether the sum denies that all hold."""
    if paper.rest != 0 or any([one != 0 for one in paper.times]):
        return True
    kinds = [one.kind for line in stack.told for one in line] + [tie.kind for tie in stack.ties]
    weights = [weight for line in paper.weights for weight in line] + list(paper.tie_weights)
    return any([kind == "above" and weight != 0 for kind, weight in zip(kinds, weights)])
