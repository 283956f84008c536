"""The nets of all stems that keep a book: the sure one, and those that come."""

from spiralsays.books import need_book
from spiralsays.checks import need_within
from spiralsays.errors import BadNumber
from spiralsays.fits import fit_of, is_possible, need_possible, told_at_least, told_at_most
from spiralsays.fractions import runs_of
from spiralsays.letters import begin_of, net_of_letters
from spiralsays.nets import Net
from spiralsays.papers import Denial, Paper
from spiralsays.ratios import need_ratio
from spiralsays.sayings import IsNet
from spiralsays.stem_nets import nets_of
from spiralsays.words import Always, word_among

MOST_NETS = 60


class SureNet(Paper):
    """A net of all stems that keep the book, with the papers of an Always."""

    def __init__(self, net, papers):
        super().__init__("surenet", net, papers)
        self.net, self.papers = self.parts


class Unsure(Denial):
    """Two stems that keep the book and have nothing in common."""

    def __init__(self, one, other):
        super().__init__("unsure", one, other)
        self.one, self.other = self.parts


def sure_net(book):
    need_possible(book)
    stem = fit_of(book.told).stem
    others = []
    for net in nets_of(stem):
        word = word_among(book.told, IsNet(net).told)
        if isinstance(word, Always):
            return SureNet(net, word.papers)
        others.append(word.broken)
    return apart([stem] + others, share_net)


def apart(stems, share):
    """The first two of some stems that share nothing."""
    for at, one in enumerate(stems):
        for other in stems[at + 1:]:
            if not share(one, other):
                return Unsure(one, other)
    return None


def share_net(one, other):
    return any([net.holds(other) for net in nets_of(one)])


def nets_that_come(book, low, high, most):
    need_book(book, "book")
    least = need_ratio(low, "low")
    greatest = need_ratio(high, "high")
    if greatest.is_below(least) or (least + 1).is_below(greatest):
        raise BadNumber("high")
    need_within(most, 1, MOST_NETS, "most")
    need_possible(book)
    told = book.told + (told_at_least(least), told_at_most(greatest))
    found = fit_of(told)
    if not found:
        return ()
    strips = [Net.first(whole) for whole in range(least.below - 1, greatest.below + 1)]
    uppermost = with_stems(told, strips)
    if len(uppermost) == 0:
        uppermost = with_stems(told, [top_net(told, found.stem)])
    return tuple(coming(told, uppermost, most))


def with_stems(told, nets):
    """Those of some nets that come, each with a stem."""
    papers = [(net, fit_of(told + IsNet(net).told)) for net in nets]
    return [(net, paper.stem) for net, paper in papers if paper]


def top_net(told, stem):
    """The uppermost net that comes; no strip does, and a net of the stem does."""
    middle = nets_of(stem)[0].third.corner
    runs = runs_of(middle)
    # The nets that come hang together: on the way to the stem's one all come from the uppermost one on.
    least, beyond = -1, sum(runs)
    while beyond - least > 1:
        many = (least + beyond) // 2
        net = net_of_letters(middle.below, begin_of(runs, many))
        if is_possible(told + IsNet(net).told):
            beyond = many
        else:
            least = many
    return net_of_letters(middle.below, begin_of(runs, beyond))


def coming(told, uppermost, most):
    """The first so many nets that come, level by level."""
    found = []
    row = uppermost
    while len(row) > 0 and len(found) < most:
        found = found + row
        row = with_stems(told, [child for net, stem in row for child in net.children])
    return found[:most]
