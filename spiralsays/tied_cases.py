"""The cases of things that were counted at several heights."""

from spiralsays.cases import case_of, is_thing
from spiralsays.cuts import cuts_of, pieces_between
from spiralsays.stacks import Stack
from spiralsays.tied_fits import HeightGround
from spiralsays.tied_sums import HeightProof
from spiralsays.windows import Window


def all_things(things):
    return tuple([thing for line in things for thing in line])


def stacks_of_cases(heights, window, things, others):
    """For each case its low, its high and its Stack; the cuts of others part the stretches, too."""
    ends = (window.low,) + cuts_of(all_things(things) + tuple(others), window) + (window.high,)
    found = []
    for low, high in zip(ends[:-1], ends[1:]):
        pieces = [pieces_between(line, low, high) for line in things]
        if all([len(piece) > 0 for piece in pieces]):
            told = [book.told + piece[0] for book, piece in zip(heights.books, pieces)]
            told[0] = told[0] + Window(low, high).told
            found.append((low, high, Stack(told, heights.ties)))
    return found


def tied_cases_asked(heights, window, things, height, asked):
    """The cases, where a saying or a counted thing is asked at a height; this one has its own cuts."""
    others = (asked,) if is_thing(asked) else ()
    return [
        case_of(HeightGround(stack, height), HeightProof(stack, height), asked, low, high)
        for low, high, stack in stacks_of_cases(heights, window, things, others)
    ]
