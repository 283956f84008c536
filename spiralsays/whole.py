"""All that is told of a book, in papers."""

from spiralsays.books import need_book
from spiralsays.check_choice import shows_clash
from spiralsays.check_fits import shows_fit, shows_rise, shows_simplest
from spiralsays.check_nets import shows_sure_net
from spiralsays.check_roads import shows_road
from spiralsays.checks import is_list
from spiralsays.clashes import Clash, clash
from spiralsays.fits import Kept, OneStep, fit, simplest_turn
from spiralsays.net_words import sure_net
from spiralsays.rises import greatest_rise
from spiralsays.turns import sure_road


def told_whole(book):
    found = fit(book)
    if not found:
        return (found, clash(book))
    return (found, simplest_turn(book), greatest_rise(book), sure_net(book), sure_road(book))


def shows_whole(book, value):
    need_book(book, "book")
    if not is_list(value):
        return False
    if len(value) == 2:
        return is_whole_denial(book, value[0], value[1])
    if len(value) != 5 or not isinstance(value[0], Kept) or not shows_fit(book, value[0]):
        return False
    if not shows_simplest(book, value[1]) or not shows_rise(book, value[2]):
        return False
    return shows_sure_net(book, value[3]) and shows_road(book, value[4])


def is_whole_denial(book, denial, clashing):
    """Whether any two values are what is told of an impossible book."""
    if not isinstance(denial, OneStep) or not isinstance(clashing, Clash):
        return False
    return shows_fit(book, denial) and shows_clash(book, clashing)
