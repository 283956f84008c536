"""The nets that are met at one turn, as the rise falls."""

from spiralsays.checks import need_within
from spiralsays.errors import BadNumber, Unlike
from spiralsays.nets import Net
from spiralsays.ratios import Ratio, is_ratio, need_ratio
from spiralsays.stem_nets import nets_of
from spiralsays.stems import Stem

MOST_NETS = 60


def falling(turn, many):
    """Pairs (net, squared): the E at which the net is left, going down, None for the last one."""
    here = need_ratio(turn, "turn")
    need_within(many, 1, MOST_NETS, "many")
    net = Net.first(here.top - 1 if here.is_whole else here.below)
    for _ in range(many):
        squared = left_at(net, here)
        yield (net, squared)
        if squared is None:
            return
        net = net_behind(net, here)


def left_at(net, turn):
    """The E at which a net of this turn is left, None if it is the last one."""
    if net.third.corner == turn:
        return None
    kept = net.high if leads_high(net, turn) else net.low
    # There the product of third and the step that stays is 0.
    product = net.third.studs * kept.studs
    mixed = net.third.studs * kept.rounds + kept.studs * net.third.rounds
    return (turn * mixed - net.third.rounds * kept.rounds).over(product)


def leads_high(net, turn):
    """Whether the way goes on with third and high; behind a first net it never does."""
    return net.third.corner.is_below(turn)


def net_behind(net, turn):
    return Net(net.third, net.high) if leads_high(net, turn) else Net(net.low, net.third)


def nets_between(turn, greater, lesser, most):
    here = need_ratio(turn, "turn")
    need_inside(here, greater, "greater")
    need_inside(here, lesser, "lesser")
    need_within(most, 1, MOST_NETS, "most")
    if not Ratio.of(lesser).is_below(greater):
        raise Unlike("squared")
    nets = nets_of(Stem(here, greater))
    if here.is_whole:
        return nets[:most]
    net = nets[0]
    found = [net]
    while len(found) < most:
        squared = left_at(net, here)
        if squared is None or squared.is_below(lesser):
            break
        net = net_behind(net, here)
        found.append(net)
    return tuple(found)


def need_inside(turn, squared, part):
    if not is_ratio(squared) or not (turn * turn).is_below(squared):
        raise BadNumber(part)
