"""Where ties lead, one behind another."""

from spiralsays.heights import need_height, need_heights


def tied(heights, one, other):
    """above, least or None, as the ties lead from one height to another."""
    need_heights(heights, "heights")
    need_height(heights, one)
    need_height(heights, other)
    reached = leads(heights)
    for tie in heights.ties:
        if tie.kind == "above" and reached[one][tie.one] and reached[tie.other][other]:
            return "above"
    return "least" if reached[one][other] else None


def equal_heights(heights):
    """The groups of heights that lead to one another."""
    need_heights(heights, "heights")
    reached = leads(heights)
    numbers = list(range(len(heights)))
    groups = []
    for one in numbers:
        group = tuple([other for other in numbers if reached[one][other] and reached[other][one]])
        if group[0] == one:
            groups.append(group)
    return tuple(groups)


def leads(heights):
    """For each height, for each height: whether ties lead from the one to the other; each leads to itself."""
    numbers = list(range(len(heights)))
    reached = [[one == other for other in numbers] for one in numbers]
    for tie in heights.ties:
        reached[tie.one][tie.other] = True
        if tie.kind == "zero":
            reached[tie.other][tie.one] = True
    for middle in numbers:
        for one in numbers:
            for other in numbers:
                if reached[one][middle] and reached[middle][other]:
                    reached[one][other] = True
    return reached
