"""Papers as texts, and texts read as papers."""

from spiralsays.checks import LETTERS, is_integer
from spiralsays.errors import BadPaper
from spiralsays.paper_kinds import is_kind, made, paper_kind, part_names
from spiralsays.plain_values import PLAIN_KINDS, plain_kind, take_plain
from spiralsays.ratios import Ratio, ratio_of
from spiralsays.texts import MOST_DIGITS, read_whole

MOST_LETTERS = 60
MOST_OPEN = 50
OPENING = ("(", "[", "<")


def paper_text(paper):
    return " ".join(words_of_paper(paper, 0, "paper"))


def words_of_paper(paper, depth, name):
    """The words of a paper's text, so many brackets being open; BadPaper(name) if it has none."""
    kind = paper_kind(paper)
    if kind is None:
        raise BadPaper(name)
    words = [kind]
    for part in paper.parts:
        words.extend(words_of_part(part, depth, name))
    return words


def words_of_part(value, depth, name):
    """The words of any value that is a part of a paper, or an item of a list there."""
    if value is None:
        return ["-"]
    if is_short_number(value):
        return [str(value)]
    if isinstance(value, str):
        if not is_letters(value):
            raise BadPaper(name)
        return [value]
    if depth == MOST_OPEN:
        raise BadPaper(name)
    if isinstance(value, (list, tuple)):
        words = ["("]
        for item in value:
            words.extend(words_of_part(item, depth + 1, name))
        return words + [")"]
    if plain_kind(value) is not None:
        return ["<"] + words_of_plain(value, name) + [">"]
    return ["["] + words_of_paper(value, depth + 1, name) + ["]"]


def words_of_plain(value, name):
    """The kind of a plain value and the words of its text; BadPaper(name) if a number in it is too long."""
    words = str(value).split(" ")
    if not all([are_short_digits(part) for word in words for part in word.split("/")]):
        raise BadPaper(name)
    return [plain_kind(value)] + words


def are_short_digits(word):
    """Whether a word is none of digits alone, or of few of them."""
    digits = word.removeprefix("-")
    return not digits.isdigit() or len(digits) <= MOST_DIGITS


def is_short_number(value):
    """Whether any value is an integer, or a Ratio, of few digits."""
    if isinstance(value, Ratio):
        return is_short_number(value.top) and is_short_number(value.bottom)
    return is_integer(value) and abs(value) < 10 ** 60


def is_letters(word):
    return 1 <= len(word) <= MOST_LETTERS and all([sign in LETTERS for sign in word])


def read_paper(text):
    return read_whole(text, take_paper)


def take_paper(words):
    return take_parts(words, words.take(), 0)


def take_parts(words, kind, depth):
    """The paper of a kind, the word that was taken last, with the parts that follow; so many brackets are open."""
    if not is_kind(kind):
        words.refuse()
    return made(kind, [take_part(words, depth) for _ in part_names(kind)])


def take_part(words, depth):
    """A part of a paper, or an item of a list there."""
    word = words.take()
    if word == "-":
        return None
    if word not in OPENING:
        return number_or_letters(words, word)
    if depth == MOST_OPEN:
        words.refuse()
    if word == "(":
        return take_items(words, depth + 1)
    if word == "<":
        return take_closed_plain(words)
    paper = take_parts(words, words.take(), depth + 1)
    take_closing(words, "]")
    return paper


def number_or_letters(words, word):
    number = ratio_of(word)
    if number is not None:
        return number if "/" in word else number.top
    if not is_letters(word):
        words.refuse()
    return word


def take_items(words, depth):
    """The items of a list, up to the bracket that closes it."""
    items = []
    while not words.has_next(")"):
        items.append(take_part(words, depth))
    words.take()
    return tuple(items)


def take_closed_plain(words):
    """A plain value, up to the bracket that closes it."""
    kind = words.take()
    if kind not in PLAIN_KINDS:
        words.refuse()
    inside = words.up_to(">")
    value = take_plain(inside, kind)
    words.skip_to(inside)
    take_closing(words, ">")
    return value


def take_closing(words, bracket):
    if words.take() != bracket:
        words.refuse()
