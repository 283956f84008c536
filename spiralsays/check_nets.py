"""Whether any value is what sure_net or sure_nearest may return."""

from spiralsays.books import need_book
from spiralsays.check_words import is_always
from spiralsays.map_pieces import SureNearest, share_pair
from spiralsays.net_words import SureNet, Unsure, share_net
from spiralsays.nets import Net
from spiralsays.pairs import are_neighbours
from spiralsays.sayings import IsNet, Nearest
from spiralsays.steps import Step


def shows_sure_net(book, value):
    need_book(book, "book")
    if isinstance(value, SureNet):
        return isinstance(value.net, Net) and is_always(book.told, IsNet(value.net).told, value.papers)
    return are_two_stems(book, value) and not share_net(value.one, value.other)


def shows_sure_nearest(book, value):
    need_book(book, "book")
    if isinstance(value, SureNearest):
        one, other = value.one, value.other
        if not isinstance(one, Step) or not isinstance(other, Step) or not are_neighbours(one, other):
            return False
        return is_always(book.told, Nearest(one, other).told, value.papers)
    return are_two_stems(book, value) and not share_pair(value.one, value.other)


def are_two_stems(book, value):
    """Whether any value is an Unsure of two stems that keep the book."""
    return isinstance(value, Unsure) and value.one in book and value.other in book
