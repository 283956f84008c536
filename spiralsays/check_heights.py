"""Whether any value is what tied_fits, tied_counts or orders may return."""

from spiralsays.cases import is_thing, need_asked
from spiralsays.check_counts import are_entries, is_so_at
from spiralsays.check_roads import is_road_over
from spiralsays.check_words import is_word_over
from spiralsays.checks import is_list
from spiralsays.heights import need_ends, need_height, need_heights, need_tie
from spiralsays.sayings import need_saying
from spiralsays.stacks import stack_of
from spiralsays.tied_cases import stacks_of_cases, tied_cases_asked
from spiralsays.tied_counts import need_count_heights
from spiralsays.tied_fits import KeptHeights
from spiralsays.tied_sums import HeightProof, TieProof, is_kept_tied, is_right_tied, stem_at
from spiralsays.told_counts import NoStretch
from spiralsays.words import Always, Both, Nowhere


def shows_heights(heights, value):
    need_heights(heights, "heights")
    stack = stack_of(heights)
    return is_kept_tied(stack, value) or is_right_tied(stack, value)


def shows_word_heights(heights, height, saying, value):
    need_heights(heights, "heights")
    need_height(heights, height)
    need_saying(saying, "saying")
    return is_word_over(HeightProof(stack_of(heights), height), saying.told, value)


def shows_word_tie(heights, tie, value):
    need_heights(heights, "heights")
    need_tie(tie, "tie")
    need_ends(tie, len(heights))
    return is_word_over(TieProof(stack_of(heights)), (tie,), value)


def shows_count_heights(count_heights, value):
    need_count_heights(count_heights, "count_heights")
    if isinstance(value, KeptHeights):
        return is_kept_counted(count_heights, value)
    if not isinstance(value, NoStretch):
        return False
    cases = stacks_of_cases(count_heights.heights, count_heights.window, count_heights.things, ())
    if not is_list(value.papers) or len(value.papers) != len(cases):
        return False
    return all([is_right_tied(stack, paper) for (_, _, stack), paper in zip(cases, value.papers)])


def is_kept_counted(count_heights, value):
    """Whether any value is a KeptHeights that keeps the heights, the window and all things."""
    if not is_kept_tied(stack_of(count_heights.heights), value) or stem_at(value, 0) not in count_heights.window:
        return False
    return all([
        thing.holds(stem_at(value, height))
        for height, line in enumerate(count_heights.things) for thing in line
    ])


def shows_word_count_heights(count_heights, height, saying, value):
    need_count_heights(count_heights, "count_heights")
    need_height(count_heights.heights, height)
    need_asked(saying, "saying")
    if isinstance(value, Both):
        if not is_kept_counted(count_heights, value.kept) or not is_kept_counted(count_heights, value.broken):
            return False
        return is_so_at(saying, stem_at(value.kept, height)) and not is_so_at(saying, stem_at(value.broken, height))
    if not isinstance(value, (Always, Nowhere)):
        return False
    heights, window, things = count_heights.heights, count_heights.window, count_heights.things
    return are_entries(tied_cases_asked(heights, window, things, height, saying), is_thing(saying), value)


def shows_road_of(heights, value):
    need_heights(heights, "heights")
    return is_road_over(HeightProof(stack_of(heights), 0), value)
