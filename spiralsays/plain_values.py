"""Plain values: their kinds, and how they are read."""

from spiralsays.books import Book, take_book
from spiralsays.counted import Counted, take_counted
from spiralsays.heights import Heights, Tie, take_heights, take_tie
from spiralsays.nets import Net, take_net
from spiralsays.roads import Road, take_road
from spiralsays.rows import Row, Told, take_row, take_told
from spiralsays.sayings import Saying, take_saying
from spiralsays.stems import Stem, take_stem
from spiralsays.steps import Step, take_step
from spiralsays.tables import Table, take_table
from spiralsays.windows import Window, take_window

PLAIN_KINDS = (
    "step", "table", "stem", "net", "row", "told", "book", "saying", "road", "window", "counted", "tie", "heights",
)


def plain_kind(value):
    """The kind of any value that is a plain one, None for every other value."""
    if isinstance(value, (Saying, Counted)):
        # The classes below these have no kinds of their own.
        return "saying" if isinstance(value, Saying) else "counted"
    if not isinstance(value, (Step, Table, Stem, Net, Row, Told, Book, Road, Window, Tie, Heights)):
        return None
    word = value.__class__.__name__.lower()
    return word if word in PLAIN_KINDS else None


def take_plain(words, kind):
    """The plain value of a kind that the next words tell."""
    if kind == "step":
        return take_step(words)
    if kind == "table":
        return take_table(words)
    if kind == "stem":
        return take_stem(words)
    if kind == "net":
        return take_net(words)
    if kind == "row":
        return take_row(words)
    if kind == "told":
        return take_told(words)
    if kind == "book":
        return take_book(words)
    if kind == "saying":
        return take_saying(words)
    if kind == "road":
        return take_road(words)
    if kind == "window":
        return take_window(words)
    if kind == "counted":
        return take_counted(words)
    return take_tie(words) if kind == "tie" else take_heights(words)
