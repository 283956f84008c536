"""Whether any value is a word of a saying, or a Tight, that is right."""

from spiralsays.books import need_book
from spiralsays.checks import is_list, need_within
from spiralsays.farey import next_above
from spiralsays.ratios import Ratio, is_ratio
from spiralsays.rows import need_row
from spiralsays.sayings import need_saying
from spiralsays.sums import is_right
from spiralsays.tight import MOST_BOTTOM, Tight, has_low, told_below
from spiralsays.words import Always, Both, Nowhere


def shows_word(book, saying, value):
    need_book(book, "book")
    need_saying(saying, "saying")
    if isinstance(value, Always):
        return is_always(book.told, saying.told, value.papers)
    if isinstance(value, Nowhere):
        return is_right(book.told + saying.told, value.paper)
    if not isinstance(value, Both) or value.kept not in book or value.broken not in book:
        return False
    return are_kept(saying.told, value.kept) and not are_kept(saying.told, value.broken)


def are_kept(told, stem):
    return all([one.holds(stem) for one in told])


def is_always(told, asked, papers):
    """Whether any value is a line of right OneSteps for each told one that is asked."""
    if not is_list(papers) or len(papers) != len(asked):
        return False
    return all([
        are_right_with(told, [(contrary,) for contrary in one.contrary()], line)
        for one, line in zip(asked, papers)
    ])


def are_right_with(told, put_in, papers):
    """Whether any value is a list of right OneSteps, one with each of what is put in."""
    if not is_list(papers) or len(papers) != len(put_in):
        return False
    return all([is_right(told + more, paper) for more, paper in zip(put_in, papers)])


def shows_tight(book, row, bottom, value):
    need_book(book, "book")
    need_row(row, "row")
    need_within(bottom, 1, MOST_BOTTOM, "bottom")
    if not isinstance(value, Tight):
        return False
    if not is_lowest(book, row, bottom, (value.low, value.low_paper, value.low_stem)):
        return False
    high = -Ratio.of(value.high) if is_ratio(value.high) else value.high
    return is_lowest(book, -row, bottom, (high, value.high_paper, value.high_stem))


def is_lowest(book, row, bottom, parts):
    """Whether any three values are the low of a row, its paper and its stem."""
    low, paper, stem = parts
    if stem not in book:
        return False
    if low is None:
        return paper is None and not has_low(book.told, row)
    if not is_ratio(low) or Ratio.of(low).bottom > bottom:
        return False
    if not row.at(stem).is_below(next_above(Ratio.of(low), bottom)):
        return False
    return is_right(book.told + (told_below(row, Ratio.of(low)),), paper)
