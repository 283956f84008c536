"""Ties one behind another: from which height to which they lead, and by which of them."""


class Link:
    """Ties that lead from a height to another one: pairs (number, how often), -1 for a zero one turned about."""

    def __init__(self, is_above, shares):
        self.is_above = is_above
        self.shares = shares

    def followed_by(self, other):
        return Link(self.is_above or other.is_above, self.shares + other.shares)


def links_of(many, ties):
    """For each of so many heights, for each of them, a Link that leads there, None without one.

    It has an above tie if any that leads there has. From a height to itself no tie is needed.
    """
    numbers = list(range(many))
    plain = plain_links(numbers, ties)
    links = [list(line) for line in plain]
    for number, tie in enumerate(ties):
        if tie.kind != "above":
            continue
        step = Link(True, ((number, 1),))
        for one in numbers:
            for other in numbers:
                ahead, behind = plain[one][tie.one], plain[tie.other][other]
                if ahead is not None and behind is not None and not links[one][other].is_above:
                    links[one][other] = ahead.followed_by(step).followed_by(behind)
    return links


def plain_links(numbers, ties):
    """The same, of ties of whichever kind."""
    links = [[Link(False, ()) if one == other else None for other in numbers] for one in numbers]
    for number, tie in enumerate(ties):
        if links[tie.one][tie.other] is None:
            links[tie.one][tie.other] = Link(tie.kind == "above", ((number, 1),))
        if tie.kind == "zero" and links[tie.other][tie.one] is None:
            links[tie.other][tie.one] = Link(False, ((number, -1),))
    for middle in numbers:
        for one in numbers:
            for other in numbers:
                ahead, behind = links[one][middle], links[middle][other]
                if links[one][other] is None and ahead is not None and behind is not None:
                    links[one][other] = ahead.followed_by(behind)
    return links
