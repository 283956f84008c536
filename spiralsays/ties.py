"""Where ties lead, one behind another."""

from spiralsays.heights import need_height, need_heights
from spiralsays.links import links_of


def tied(heights, one, other):
    """above, least or None, as the ties lead from one height to another."""
    need_heights(heights, "heights")
    need_height(heights, one)
    need_height(heights, other)
    link = links_of(len(heights), heights.ties)[one][other]
    if link is None:
        return None
    return "above" if link.is_above else "least"


def equal_heights(heights):
    """The groups of heights that lead to one another."""
    need_heights(heights, "heights")
    links = links_of(len(heights), heights.ties)
    numbers = list(range(len(heights)))
    groups = []
    for one in numbers:
        group = [other for other in numbers if links[one][other] is not None and links[other][one] is not None]
        if group[0] == one:
            groups.append(tuple(group))
    return tuple(groups)
