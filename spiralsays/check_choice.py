"""Whether any value is what clash, strikes, enough, cheapest or offers may return."""

from spiralsays.books import need_book
from spiralsays.check_words import BookProof, is_word_over
from spiralsays.checks import is_integer, is_list, need_within
from spiralsays.clashes import Clash
from spiralsays.fits import Kept
from spiralsays.measures import EnoughRows, StillBoth, all_outcomes, are_signs, need_rows, told_by
from spiralsays.number_sets import is_set, sets_up_to, told_at, told_without
from spiralsays.offers import Cheapest, Follows, need_priced, need_tolds, price_of
from spiralsays.sayings import need_saying
from spiralsays.strikes import MOST_STRUCK, NotStruck, Struck
from spiralsays.sums import is_right
from spiralsays.words import Always, Both, Nowhere


def shows_clash(book, value):
    need_book(book, "book")
    if isinstance(value, Kept):
        return value.stem in book
    if not isinstance(value, Clash) or not is_set(value.numbers, len(book)) or len(value.numbers) == 0:
        return False
    return is_right(told_at(book.told, value.numbers), value.paper)


def shows_strikes(book, most, value):
    need_book(book, "book")
    need_within(most, 0, MOST_STRUCK, "most")
    if isinstance(value, Struck):
        if not is_set(value.numbers, len(book)) or len(value.numbers) > most:
            return False
        return BookProof(told_without(book.told, value.numbers)).keeps(value.stem)
    if not isinstance(value, NotStruck) or not is_list(value.papers):
        return False
    sets = sets_up_to(len(book), most)
    if len(value.papers) != len(sets):
        return False
    return all([is_right(told_without(book.told, one), paper) for one, paper in zip(sets, value.papers)])


def shows_enough(book, saying, rows, value):
    need_book(book, "book")
    need_saying(saying, "saying")
    need_rows(rows)
    if isinstance(value, StillBoth):
        return is_still_both(book, saying, rows, value)
    return is_enough(book, saying, rows, value)


def is_still_both(book, saying, rows, paper):
    if not are_signs(paper.signs, len(rows)):
        return False
    proof = BookProof(book.told + told_by(rows, paper.signs))
    return is_word_over(proof, saying.told, Both(paper.kept, paper.broken))


def is_enough(book, saying, rows, value):
    """Whether any value is an EnoughRows with a right paper at each outcome."""
    if not isinstance(value, EnoughRows) or not is_list(value.table):
        return False
    many = 1
    for _ in rows:
        many = many * 3
    # All outcomes of ever so many rows are too many; those of a table are not.
    if len(value.table) != many:
        return False
    return all([
        is_entry(book.told + told_by(rows, signs), saying.told, signs, entry)
        for signs, entry in zip(all_outcomes(len(rows)), value.table)
    ])


def is_entry(told, asked, signs, entry):
    """Whether any value is the pair of an outcome and a right paper: it cannot come, or the word is one of two."""
    if not is_list(entry) or len(entry) != 2 or not are_signs(entry[0], len(signs)) or tuple(entry[0]) != signs:
        return False
    paper = entry[1]
    if isinstance(paper, (Always, Nowhere)):
        return is_word_over(BookProof(told), asked, paper)
    return is_right(told, paper)


def shows_cheapest(book, saying, rows, prices, value):
    need_priced(book, saying, rows, prices)
    if isinstance(value, StillBoth):
        return is_still_both(book, saying, rows, value)
    if not isinstance(value, Cheapest) or not is_set(value.numbers, len(rows)) or not is_integer(value.price):
        return False
    if value.price != price_of(value.numbers, prices):
        return False
    return is_enough(book, saying, [rows[number] for number in value.numbers], value.paper)


def shows_offers(book, told, value):
    need_book(book, "book")
    need_tolds(told)
    if not isinstance(value, Follows):
        return False
    proof = BookProof(book.told)
    numbers = []
    for pairs in value.parts:
        if not are_pairs(pairs, len(told)):
            return False
        numbers.extend([number for number, _ in pairs])
    if sorted(numbers) != list(range(len(told))):
        return False
    if not all([isinstance(paper, Always) for _, paper in value.always]):
        return False
    if not all([isinstance(paper, Nowhere) for _, paper in value.nowhere]):
        return False
    if not all([isinstance(paper, Both) for _, paper in value.both]):
        return False
    return all([is_word_over(proof, (told[number],), paper) for pairs in value.parts for number, paper in pairs])


def are_pairs(value, many):
    """Whether any value is a list of pairs of numbers below many, ascending, and whatever."""
    if not is_list(value) or not all([is_list(one) and len(one) == 2 for one in value]):
        return False
    return is_set([one[0] for one in value], many)
