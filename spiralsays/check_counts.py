"""Whether any value is what fit_counts or word_counts may return."""

from spiralsays.cases import cases_asked, is_thing, need_asked, told_of_cases
from spiralsays.check_words import are_kept, are_shown
from spiralsays.checks import is_list
from spiralsays.sums import is_right
from spiralsays.told_counts import KeptCounts, NoStretch, need_count_book
from spiralsays.words import Always, Both, Nowhere


def shows_counts(count_book, value):
    need_count_book(count_book, "count_book")
    if isinstance(value, KeptCounts):
        return value.stem in count_book
    if not isinstance(value, NoStretch):
        return False
    cases = told_of_cases(count_book.book, count_book.window, count_book.things)
    if not is_list(value.papers) or len(value.papers) != len(cases):
        return False
    return all([is_right(told, paper) for told, paper in zip(cases, value.papers)])


def shows_word_counts(count_book, saying, value):
    need_count_book(count_book, "count_book")
    need_asked(saying, "saying")
    if isinstance(value, Both):
        if value.kept not in count_book or value.broken not in count_book:
            return False
        return is_so_at(saying, value.kept) and not is_so_at(saying, value.broken)
    if not isinstance(value, (Always, Nowhere)):
        return False
    cases = cases_asked(count_book.book, count_book.window, count_book.things, saying)
    return are_entries(cases, is_thing(saying), value)


def is_so_at(asked, stem):
    """Whether a saying or a counted thing holds at a stem."""
    return asked.holds(stem) if is_thing(asked) else are_kept(asked.told, stem)


def are_entries(cases, of_thing, value):
    """Whether an Always or a Nowhere has right papers for each of some cases, of a counted thing or of a saying."""
    entries = value.papers if isinstance(value, Always) else value.paper
    if not is_list(entries) or len(entries) != len(cases):
        return False
    if isinstance(value, Always):
        return all([is_denied(case, of_thing, entry) for case, entry in zip(cases, entries)])
    return all([is_never(case, of_thing, entry) for case, entry in zip(cases, entries)])


def is_denied(case, of_thing, entry):
    """Whether any value has right papers with all contraries: a line, of a saying one for each told one."""
    lines = (entry,) if of_thing else entry
    if not is_list(lines) or len(lines) != len(case.against):
        return False
    return all([are_shown(case.proof, put_in, line) for put_in, line in zip(case.against, lines)])


def is_never(case, of_thing, entry):
    """Whether any value is the right paper with what is asked; of a thing a line of one, or of none."""
    line = entry if of_thing else (entry,)
    return are_shown(case.proof, case.wholes, line)
