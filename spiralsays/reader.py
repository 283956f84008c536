"""Plain values and papers as texts, and whether a paper is right for a book."""

from spiralsays.books import need_book
from spiralsays.check_choice import shows_clash
from spiralsays.check_fits import shows_fit, shows_rise, shows_simplest
from spiralsays.check_nets import shows_sure_nearest, shows_sure_net
from spiralsays.check_roads import shows_road
from spiralsays.clashes import Clash
from spiralsays.fits import Kept, OneStep, Simplest
from spiralsays.map_pieces import SureNearest
from spiralsays.net_words import SureNet, Unsure
from spiralsays.paper_kinds import paper_kind
from spiralsays.paper_texts import take_parts, words_of_paper, words_of_plain
from spiralsays.plain_values import PLAIN_KINDS, plain_kind, take_plain
from spiralsays.rises import Endless, Highest
from spiralsays.texts import read_whole
from spiralsays.turns import Ended, Roadless, SureRoad


def kind_of(value):
    kind = plain_kind(value)
    return paper_kind(value) if kind is None else kind


def value_text(value):
    if plain_kind(value) is None:
        return " ".join(words_of_paper(value, 0, "value"))
    return " ".join(words_of_plain(value, "value"))


def read_value(text):
    return read_whole(text, take_value)


def take_value(words):
    """The plain value or the paper that the next words tell, its kind first."""
    kind = words.take()
    return take_plain(words, kind) if kind in PLAIN_KINDS else take_parts(words, kind, 0)


def is_shown(book, value):
    need_book(book, "book")
    if isinstance(value, (Kept, OneStep)):
        return shows_fit(book, value)
    if isinstance(value, Simplest):
        return shows_simplest(book, value)
    if isinstance(value, (Highest, Endless)):
        return shows_rise(book, value)
    if isinstance(value, (SureNet, Unsure)):
        return shows_sure_net(book, value)
    if isinstance(value, SureNearest):
        return shows_sure_nearest(book, value)
    if isinstance(value, (SureRoad, Ended, Roadless)):
        return shows_road(book, value)
    return isinstance(value, Clash) and shows_clash(book, value)
