"""The kinds of papers, and what their parts are called."""

from spiralsays.checks import is_list
from spiralsays.clashes import Clash
from spiralsays.errors import BadPaper
from spiralsays.fits import Kept, OneStep, Simplest
from spiralsays.map_pieces import SureNearest
from spiralsays.measures import EnoughRows, StillBoth
from spiralsays.net_words import SureNet, Unsure
from spiralsays.offers import Cheapest, Follows
from spiralsays.rises import Endless, Highest, NotReached, Reached
from spiralsays.rolled import Unalike
from spiralsays.strikes import NotStruck, Struck
from spiralsays.tied_fits import KeptHeights, OneStepHeights
from spiralsays.tight import Tight
from spiralsays.told_counts import KeptCounts, NoStretch
from spiralsays.turns import Ended, Roadless, SureRoad
from spiralsays.words import Always, Both, Nowhere

PARTS = {
    "always": ("papers",),
    "both": ("kept", "broken"),
    "cheapest": ("numbers", "price", "paper"),
    "clash": ("numbers", "paper"),
    "ended": ("road", "low_paper", "high_paper", "stem"),
    "endless": ("stem",),
    "enoughrows": ("table",),
    "follows": ("always", "nowhere", "both"),
    "highest": ("bound", "weights", "step"),
    "kept": ("stem",),
    "keptcounts": ("stem",),
    "keptheights": ("turn", "squares"),
    "nostretch": ("papers",),
    "notreached": ("number",),
    "notstruck": ("papers",),
    "nowhere": ("paper",),
    "onestep": ("weights", "step", "times", "rest"),
    "onestepheights": ("weights", "tie_weights", "step", "times", "rest"),
    "reached": ("stem",),
    "roadless": ("one", "other"),
    "simplest": ("turn", "stem", "low", "high"),
    "stillboth": ("signs", "kept", "broken"),
    "struck": ("numbers", "stem"),
    "surenearest": ("one", "other", "papers"),
    "surenet": ("net", "papers"),
    "sureroad": ("road", "low_paper", "high_paper", "one", "other"),
    "tight": ("low", "high", "low_paper", "high_paper", "low_stem", "high_stem"),
    "unalike": ("one", "other"),
    "unsure": ("one", "other"),
}


def kind_words():
    return tuple(sorted(list(PARTS)))


def is_kind(value):
    return isinstance(value, str) and value in PARTS


def part_names(kind):
    if not is_kind(kind):
        raise BadPaper("kind")
    return PARTS[kind]


def made(kind, parts):
    """The paper of a kind with these parts, any values."""
    names = part_names(kind)
    if not is_list(parts) or len(parts) != len(names):
        raise BadPaper("parts")
    return made_of_book(kind, parts)


def made_of_book(kind, parts):
    if kind == "kept":
        return Kept(*parts)
    if kind == "onestep":
        return OneStep(*parts)
    if kind == "simplest":
        return Simplest(*parts)
    if kind == "highest":
        return Highest(*parts)
    if kind == "endless":
        return Endless(*parts)
    if kind == "reached":
        return Reached(*parts)
    return NotReached(*parts) if kind == "notreached" else made_of_words(kind, parts)


def made_of_words(kind, parts):
    if kind == "always":
        return Always(*parts)
    if kind == "nowhere":
        return Nowhere(*parts)
    if kind == "both":
        return Both(*parts)
    if kind == "tight":
        return Tight(*parts)
    if kind == "surenet":
        return SureNet(*parts)
    if kind == "unsure":
        return Unsure(*parts)
    return SureNearest(*parts) if kind == "surenearest" else made_of_roads(kind, parts)


def made_of_roads(kind, parts):
    if kind == "sureroad":
        return SureRoad(*parts)
    if kind == "ended":
        return Ended(*parts)
    return Roadless(*parts) if kind == "roadless" else made_of_heights(kind, parts)


def made_of_heights(kind, parts):
    if kind == "keptcounts":
        return KeptCounts(*parts)
    if kind == "nostretch":
        return NoStretch(*parts)
    if kind == "keptheights":
        return KeptHeights(*parts)
    if kind == "onestepheights":
        return OneStepHeights(*parts)
    return Unalike(*parts) if kind == "unalike" else made_of_choice(kind, parts)


def made_of_choice(kind, parts):
    if kind == "clash":
        return Clash(*parts)
    if kind == "struck":
        return Struck(*parts)
    if kind == "notstruck":
        return NotStruck(*parts)
    if kind == "enoughrows":
        return EnoughRows(*parts)
    if kind == "stillboth":
        return StillBoth(*parts)
    return Cheapest(*parts) if kind == "cheapest" else Follows(*parts)


def paper_kind(value):
    """The kind of any value that is a paper of one of these classes; None for every other value."""
    if not is_of_kinds(value):
        return None
    word = value.__class__.__name__.lower()
    return word if is_kind(word) else None


def is_of_kinds(value):
    """Whether any value is a paper of one of these classes, or of one below them."""
    if isinstance(value, (Kept, OneStep, Simplest, Highest, Endless, Reached, NotReached)):
        return True
    if isinstance(value, (Always, Nowhere, Both, Tight, SureNet, Unsure, SureNearest, SureRoad, Ended, Roadless)):
        return True
    if isinstance(value, (KeptCounts, NoStretch, KeptHeights, OneStepHeights, Unalike)):
        return True
    return isinstance(value, (Clash, Struck, NotStruck, EnoughRows, StillBoth, Cheapest, Follows))
