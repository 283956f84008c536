"""The asking lines of a desk: each is read word by word, and answered; nothing changes."""

from spiralsays.books import Book
from spiralsays.clashes import Clash, clash
from spiralsays.counted import take_counted
from spiralsays.desk_words import joined_words, take_from_zero, take_kept, take_name
from spiralsays.fits import fit, simplest_turn
from spiralsays.net_words import SureNet, sure_net
from spiralsays.reader import is_shown, value_text
from spiralsays.rises import Highest, greatest_rise
from spiralsays.rolled import rolled
from spiralsays.rows import Row
from spiralsays.sayings import take_saying
from spiralsays.stem_nets import nets_of
from spiralsays.steps import take_step
from spiralsays.tied_fits import fit_heights, word_heights
from spiralsays.tight import tightest
from spiralsays.told_counts import MOST_THINGS, CountBook, fit_counts
from spiralsays.turns import Roadless, sure_road
from spiralsays.windows import take_window
from spiralsays.words import word_of


def take_last_book(words, kept):
    """A name of a book with which the line ends: the book."""
    book = take_kept(words, kept, ("book",))
    words.end()
    return book


def text_line(words, kept):
    name = take_name(words, kept)
    words.end()
    return value_text(kept[name])


def names_line(words, kept):
    words.end()
    return joined_words(sorted(list(kept)))


def fit_line(words, kept):
    value = take_kept(words, kept, ("book", "heights"))
    words.end()
    found = fit(value) if isinstance(value, Book) else fit_heights(value)
    if not found:
        return "never"
    if isinstance(value, Book):
        return f"post {found.stem}"
    return f"post {found.turn} {joined_words(found.squares)}"


def word_line(words, kept):
    book = take_kept(words, kept, ("book",))
    saying = take_saying(words)
    words.end()
    return word_of(book, saying).word


def heard_line(words, kept):
    heights = take_kept(words, kept, ("heights",))
    height = take_from_zero(words, len(heights))
    saying = take_saying(words)
    words.end()
    return word_heights(heights, height, saying).word


def counts_line(words, kept):
    book = take_kept(words, kept, ("book",))
    window = take_window(words)
    things = [take_counted(words)]
    while words.has_next(",") and len(things) < MOST_THINGS:
        words.take()
        things.append(take_counted(words))
    words.end()
    found = fit_counts(CountBook(book, window, things))
    return f"post {found.stem}" if found else "never"


def turn_line(words, kept):
    return str(simplest_turn(take_last_book(words, kept)).turn)


def between_line(words, kept):
    book = take_kept(words, kept, ("book",))
    bottom = take_from_zero(words, None)
    words.end()
    found = tightest(book, Row(0, 1, 0), bottom)
    return " ".join(["-" if end is None else str(end) for end in (found.low, found.high)])


def rise_line(words, kept):
    found = greatest_rise(take_last_book(words, kept))
    return str(found.bound) if isinstance(found, Highest) else "endless"


def net_line(words, kept):
    found = sure_net(take_last_book(words, kept))
    return str(found.net) if isinstance(found, SureNet) else f"unsure {found.one} {found.other}"


def road_line(words, kept):
    found = sure_road(take_last_book(words, kept))
    return "roadless" if isinstance(found, Roadless) else str(found.road)


def nets_line(words, kept):
    stem = take_kept(words, kept, ("stem",))
    words.end()
    return " , ".join([str(net) for net in nets_of(stem)])


def rolled_line(words, kept):
    stem = take_kept(words, kept, ("stem",))
    step = take_step(words)
    words.end()
    return str(rolled(stem, step)[0])


def clash_line(words, kept):
    found = clash(take_last_book(words, kept))
    return joined_words(found.numbers) if isinstance(found, Clash) else "-"


def shown_line(words, kept):
    book = take_kept(words, kept, ("book",))
    name = take_name(words, kept)
    words.end()
    return "yes" if is_shown(book, kept[name]) else "no"


ANSWERS = {
    "text": text_line,
    "names": names_line,
    "fit": fit_line,
    "word": word_line,
    "heard": heard_line,
    "counts": counts_line,
    "turn": turn_line,
    "between": between_line,
    "rise": rise_line,
    "net": net_line,
    "road": road_line,
    "nets": nets_line,
    "rolled": rolled_line,
    "clash": clash_line,
    "shown": shown_line,
}
