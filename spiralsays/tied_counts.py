"""Heights with a window and counted things: whether they can be, and what holds over them."""

from spiralsays.cases import is_thing, need_asked, word_of_cases
from spiralsays.checks import is_list
from spiralsays.counted import Counted
from spiralsays.cuts import need_few_cuts
from spiralsays.errors import BadCounted, Impossible, TooMany, Unlike
from spiralsays.heights import need_height, need_heights
from spiralsays.tied_cases import all_things, stacks_of_cases, tied_cases_asked
from spiralsays.tied_fits import fit_of_stack
from spiralsays.told_counts import MOST_THINGS, NoStretch
from spiralsays.windows import need_window


class CountHeights:
    """Heights, a window, and for each height the counted things seen there."""

    def __init__(self, heights, window, things):
        need_heights(heights, "heights")
        need_window(window, "window")
        if not is_list(things) or not all([are_things(line) for line in things]):
            raise BadCounted("things")
        if len(all_things(things)) == 0:
            raise BadCounted("things")
        if len(things) != len(heights):
            raise Unlike("things")
        if len(all_things(things)) > MOST_THINGS:
            raise TooMany("things", MOST_THINGS)
        self.heights = heights
        self.window = window
        self.things = tuple([tuple(line) for line in things])

    def __eq__(self, other):
        if not isinstance(other, CountHeights):
            return False
        return self.heights == other.heights and self.window == other.window and self.things == other.things


def are_things(value):
    """Whether any value is a list of counted things."""
    return is_list(value) and all([isinstance(one, Counted) for one in value])


def need_count_heights(value, part):
    if not isinstance(value, CountHeights):
        raise BadCounted(part)


def fit_count_heights(count_heights):
    need_count_heights(count_heights, "count_heights")
    heights, window, things = count_heights.heights, count_heights.window, count_heights.things
    need_few_cuts(all_things(things), window)
    papers = []
    for _, _, stack in stacks_of_cases(heights, window, things, ()):
        paper = fit_of_stack(stack)
        if paper:
            return paper
        papers.append(paper)
    return NoStretch(papers)


def word_count_heights(count_heights, height, saying):
    need_count_heights(count_heights, "count_heights")
    heights, window, things = count_heights.heights, count_heights.window, count_heights.things
    need_height(heights, height)
    need_asked(saying, "saying")
    asked_too = (saying,) if is_thing(saying) else ()
    need_few_cuts(all_things(things) + asked_too, window)
    found = fit_count_heights(count_heights)
    if not found:
        raise Impossible(found)
    return word_of_cases(tied_cases_asked(heights, window, things, height, saying), saying)
