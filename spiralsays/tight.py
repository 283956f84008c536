"""Between which ratios of small bottoms a row lies, at all stems that keep a book."""

from spiralsays.books import need_book
from spiralsays.checks import need_within
from spiralsays.farey import greatest_that, next_above
from spiralsays.fits import fit_of, is_possible, need_possible
from spiralsays.papers import Paper
from spiralsays.rows import Row, Told, bounds_squared, need_row

MOST_BOTTOM = 1000


class Tight(Paper):
    """The row is at least low and at most high; the stems tell that no ratios beside them would do."""

    def __init__(self, low, high, low_paper, high_paper, low_stem, high_stem):
        super().__init__("tight", low, high, low_paper, high_paper, low_stem, high_stem)
        self.low, self.high, self.low_paper, self.high_paper, self.low_stem, self.high_stem = self.parts


def tightest(book, row, bottom):
    need_book(book, "book")
    need_row(row, "row")
    need_within(bottom, 1, MOST_BOTTOM, "bottom")
    need_possible(book)
    low, low_paper, low_stem = lowest(book.told, row, bottom)
    # The row is at most what the opposite one is at least, turned about.
    high, high_paper, high_stem = lowest(book.told, -row, bottom)
    return Tight(low, None if high is None else -high, low_paper, high_paper, low_stem, high_stem)


def lowest(told, row, bottom):
    """The low of a row, its paper and its stem, of told ones that some stem keeps."""
    stem = fit_of(told).stem
    if not has_low(told, row):
        return (None, None, stem)

    def is_no_more(ratio):
        return not is_possible(told + (told_below(row, ratio),))

    low = greatest_that(is_no_more, row.at(stem).below, bottom)
    nearby = fit_of(told + (told_below(row, next_above(low, bottom)),))
    return (low, fit_of(told + (told_below(row, low),)), nearby.stem)


def told_below(row, ratio):
    """That the row is below a ratio."""
    return Told.above(Row(0, 0, ratio) - row)


def has_low(told, row):
    """Whether any number is below the row at all stems that keep told ones, if some stem does."""
    if any([bounds_squared(one) for one in told]):
        return True
    if row.a.sign != 0:
        return row.a.sign > 0
    return row.b.sign == 0 or any([bounds_turn(one, row.b.sign) for one in told])


def bounds_turn(told, sign):
    """Whether a told one without an E bounds D below, for the sign 1, above, for the sign -1."""
    if told.row.a.sign != 0:
        return False
    return told.row.b.sign == sign or (told.kind == "zero" and told.row.b.sign != 0)
