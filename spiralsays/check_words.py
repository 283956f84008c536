"""Whether any value is a word of a saying, or a Tight, that is right."""

from spiralsays.books import need_book
from spiralsays.checks import is_list, need_within
from spiralsays.farey import next_above
from spiralsays.ratios import Ratio, is_ratio
from spiralsays.rows import need_row
from spiralsays.sayings import need_saying
from spiralsays.stems import Stem
from spiralsays.sums import is_right
from spiralsays.tight import MOST_BOTTOM, Tight, has_low, told_below
from spiralsays.words import Always, Both, Nowhere


class BookProof:
    """What is shown of told ones: of what is put in behind them, of what keeps them, of what holds where they do."""

    def __init__(self, told):
        self.told = told

    def shows(self, more, value):
        return is_right(self.told + more, value)

    def keeps(self, value):
        return isinstance(value, Stem) and are_kept(self.told, value)

    def has(self, asked, value):
        return are_kept(asked, value)


def shows_word(book, saying, value):
    need_book(book, "book")
    need_saying(saying, "saying")
    return is_word_over(BookProof(book.told), saying.told, value)


def is_word_over(proof, asked, value):
    """Whether any value is the word of what is asked, told ones or ties that hold together."""
    if isinstance(value, Always):
        return is_always_over(proof, asked, value.papers)
    if isinstance(value, Nowhere):
        return proof.shows(asked, value.paper)
    if not isinstance(value, Both) or not proof.keeps(value.kept) or not proof.keeps(value.broken):
        return False
    return proof.has(asked, value.kept) and not proof.has(asked, value.broken)


def are_kept(told, stem):
    return all([one.holds(stem) for one in told])


def is_always(told, asked, papers):
    """Whether any value has the papers of an Always over told ones."""
    return is_always_over(BookProof(told), asked, papers)


def is_always_over(proof, asked, papers):
    """Whether any value is a line of right papers for each one that is asked, one with each contrary."""
    if not is_list(papers) or len(papers) != len(asked):
        return False
    return all([
        are_shown(proof, [(contrary,) for contrary in one.contrary()], line)
        for one, line in zip(asked, papers)
    ])


def are_shown(proof, put_in, papers):
    """Whether any value is a list of right papers, one with each of what is put in."""
    if not is_list(papers) or len(papers) != len(put_in):
        return False
    return all([proof.shows(more, paper) for more, paper in zip(put_in, papers)])


def shows_tight(book, row, bottom, value):
    need_book(book, "book")
    need_row(row, "row")
    need_within(bottom, 1, MOST_BOTTOM, "bottom")
    if not isinstance(value, Tight):
        return False
    if not is_lowest(book, row, bottom, (value.low, value.low_paper, value.low_stem)):
        return False
    high = -Ratio.of(value.high) if is_ratio(value.high) else value.high
    return is_lowest(book, -row, bottom, (high, value.high_paper, value.high_stem))


def is_lowest(book, row, bottom, parts):
    """Whether any three values are the low of a row, its paper and its stem."""
    low, paper, stem = parts
    if stem not in book:
        return False
    if low is None:
        return paper is None and not has_low(book.told, row)
    if not is_ratio(low) or Ratio.of(low).bottom > bottom:
        return False
    if not row.at(stem).is_below(next_above(Ratio.of(low), bottom)):
        return False
    return is_right(book.told + (told_below(row, Ratio.of(low)),), paper)
