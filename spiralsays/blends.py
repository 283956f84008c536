"""What heights and ties leave of the pairs (D, E), E being at most that of each height.

Some E above D D is at most all of them just where all are above D D. So the E of the
heights are put together until none is left but this one: a limit from above of one
height, a limit from below of a height to which it leads, and the ties on the way make a limit
of D alone; the limits from above stay, for this E.
"""

from math import gcd

from spiralsays.cuts_on_lines import Span, cut_of_turns
from spiralsays.solving import Never, solved


class Blend:
    """a E + b D + c is at least strict times a trifle, like a Limit.

    It is the sum of told ones, triples (height, number, how often), of ties, pairs (number,
    how often), and, if a is below 0, of the one height's E less this E, - a times.
    """

    def __init__(self, a, b, c, strict, shares, tie_shares):
        self.a = a
        self.b = b
        self.c = c
        self.strict = strict
        self.shares = shares
        self.tie_shares = tie_shares


def blends_of(limits, links):
    """The Blends of the limits of each height and of where the ties lead."""
    blends = []
    for one, here in enumerate(limits):
        blends.extend([of_limit(one, limit) for limit in here if limit.a <= 0])
        for other, there in enumerate(limits):
            link = links[one][other]
            if link is not None:
                blends.extend([
                    crossed(one, upper, other, lower, link)
                    for upper in here if upper.a < 0 for lower in there if lower.a > 0
                ])
        if links[one][one].is_above:
            # It would be above itself.
            blends.append(Blend(0, 0, 0, 1, (), links[one][one].shares))
    return blends


def of_limit(height, limit):
    return Blend(limit.a, limit.b, limit.c, limit.strict, ((height, limit.number, limit.scale),), ())


def crossed(one, upper, other, lower, link):
    """A limit that bounds the E of one, and one that bounds that of other below, taken so often that the E go out."""
    common = gcd(upper.a, lower.a)
    own, far = lower.a // common, -upper.a // common
    across = own * -upper.a
    return Blend(
        0,
        own * upper.b + far * lower.b,
        own * upper.c + far * lower.c,
        1 if upper.strict + lower.strict > 0 or link.is_above else 0,
        ((one, upper.number, own * upper.scale), (other, lower.number, far * lower.scale)),
        tuple([(number, many * across) for number, many in link.shares]),
    )


def solved_blends(blends):
    """What solved tells of them; of those that speak of D alone only two are needed."""
    span = Span([cut_of_turns(blend) for blend in blends if blend.a == 0])
    if len(span.against) > 0:
        return Never([(cut.limit, weight * cut.own) for cut, weight in span.against])
    ends = [cut.limit for cut in (span.low, span.high) if cut is not None]
    return solved([blend for blend in blends if blend.a < 0] + ends)
