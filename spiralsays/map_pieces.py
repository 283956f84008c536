"""The pieces of the map of posts: the triangle of a net, and that of the nearest two."""

from spiralsays.books import Book, need_book
from spiralsays.check_stems import shows_nearest
from spiralsays.fits import fit_of, need_possible
from spiralsays.net_words import apart
from spiralsays.papers import Paper
from spiralsays.ratios import Ratio
from spiralsays.sayings import IsNet, Nearest
from spiralsays.stem_nets import nearest_two
from spiralsays.stems import Stem
from spiralsays.steps import Step
from spiralsays.words import Always, word_among


class SureNearest(Paper):
    """The nearest two of all stems that keep the book, with the papers of an Always."""

    def __init__(self, one, other, papers):
        super().__init__("surenearest", one, other, papers)
        self.one, self.other, self.papers = self.parts


def piece(book, net):
    need_book(book, "book")
    return book.joined(Book(IsNet(net).told))


def sure_nearest(book):
    need_possible(book)
    stem = fit_of(book.told).stem
    others = []
    for one, other in pairs_of(stem):
        word = word_among(book.told, Nearest(one, other).told)
        if isinstance(word, Always):
            return SureNearest(one, other, word.papers)
        others.append(word.broken)
    return apart_in_pairs(book, stem, others[0])


def pairs_of(stem):
    """All pairs of upward steps that are the nearest two of a stem, as pairs of pairs are ordered."""
    short, long = nearest_two(stem)
    steps = (short, long, (short + long).upward, (short - long).upward)
    pairs = [(one, other) for one in steps for other in steps if shows_nearest(stem, (one, other))]
    ordered = sorted([(one.studs, one.rounds, other.studs, other.rounds) for one, other in pairs])
    return [(Step(k, j), Step(m, i)) for k, j, m, i in ordered]


def apart_in_pairs(book, stem, other):
    """Two stems that keep the book and share no pair, if none is always the nearest two; of two it has these."""
    here, aside = stem, other
    # Where six pairs meet, a stem on the way to the other one, near enough, has one or two.
    while len(pairs_of(here)) > 2:
        aside = halfway(stem, aside)
        here = aside
    words = [word_among(book.told, Nearest(one, other).told) for one, other in pairs_of(here)]
    return apart([here] + [word.broken for word in words], share_pair)


def halfway(one, other):
    half = Ratio(1, 2)
    return Stem((one.turn + other.turn) * half, (one.squared + other.squared) * half)


def share_pair(one, other):
    return any([shows_nearest(other, pair) for pair in pairs_of(one)])
