"""Counted things: what is seen of spirals whose rounds nobody knows.

Beside what the interface lists, each has places(low, high), its cuts strictly between two turns,
and piece_between(low, high), its piece from a turn to another one without a cut between them,
None without one.
"""

from math import gcd

from spiralsays.checks import is_within
from spiralsays.errors import BadCounted, Common
from spiralsays.pairs import inverse
from spiralsays.ratios import Ratio
from spiralsays.rows import Row, Told
from spiralsays.sayings import TurnAbove, TurnBelow, TurnIs
from spiralsays.stems import need_stem
from spiralsays.steps import Step
from spiralsays.texts import read_whole

MOST_STUDS = 21
SIDES = ("right", "left")


class Counted:
    """The class above the counted things; it is not called itself."""

    def holds(self, stem):
        raise NotImplementedError("each counted thing tells this for itself")

    def __eq__(self, other):
        return isinstance(other, Counted) and str(self) == str(other)

    def __str__(self):
        return str(self.__class__.__name__.lower())

    @classmethod
    def read(cls, text):
        return read_whole(text, take_counted)


class RightLeft(Counted):
    """Neighbours with so many studs lean right and left."""

    def __init__(self, right, left):
        need_two(right, left)
        self.right = right
        self.left = left

    def holds(self, stem):
        need_stem(stem, "stem")
        one, other = leaning(self.right, self.left, stem.turn)
        return stem.lean(one).sign > 0 and stem.lean(other).sign < 0

    def places(self, low, high):
        return places_of_stretches(self.right, self.left, low, high)

    def piece_between(self, low, high):
        return piece_of_leaning(self.right, self.left, low, high)

    def __eq__(self, other):
        return isinstance(other, RightLeft) and self.right == other.right and self.left == other.left

    def __str__(self):
        return f"rightleft {self.right} {self.left}"


class SeenBoth(Counted):
    """The same, and the two are steps of one net."""

    def __init__(self, right, left):
        need_two(right, left)
        self.right = right
        self.left = left

    def holds(self, stem):
        need_stem(stem, "stem")
        one, other = leaning(self.right, self.left, stem.turn)
        if stem.lean(one).sign <= 0 or stem.lean(other).sign >= 0:
            return False
        return all([told.holds(stem) for told in told_of_net(one, other)])

    def places(self, low, high):
        return places_of_stretches(self.right, self.left, low, high)

    def piece_between(self, low, high):
        piece = piece_of_leaning(self.right, self.left, low, high)
        if piece is None:
            return None
        one, other = leaning(self.right, self.left, low)
        return piece + told_of_net(one, other)

    def __eq__(self, other):
        return isinstance(other, SeenBoth) and self.right == other.right and self.left == other.left

    def __str__(self):
        return f"seenboth {self.right} {self.left}"


class OneWay(Counted):
    """The nearest step of so many studs, if it has no divisor, leans to a side."""

    def __init__(self, studs, side):
        need_count(studs, "studs")
        if not isinstance(side, str) or side not in SIDES:
            raise BadCounted("side")
        self.studs = studs
        self.side = side

    def holds(self, stem):
        need_stem(stem, "stem")
        piece = self.piece_between(stem.turn, stem.turn)
        return piece is not None and piece[0].holds(stem)

    def places(self, low, high):
        return spaced(Ratio(0), Ratio(1, 2 * self.studs), low, high)

    def piece_between(self, low, high):
        right = self.side == "right"
        # Half stretches: they begin at the corners, the even ones, and at the ties.
        half = (low * (2 * self.studs)).below
        rounds = half // 2 if right else half // 2 + 1
        if gcd(rounds, self.studs) > 1:
            return None
        corner = Ratio(rounds, self.studs)
        if (half % 2 == 0) == right:
            return TurnAbove(corner).told if right else TurnBelow(corner).told
        tie = Ratio(2 * rounds + 1 if right else 2 * rounds - 1, 2 * self.studs)
        return TurnIs(tie).told if (low if right else high) == tie else None

    def __eq__(self, other):
        return isinstance(other, OneWay) and self.studs == other.studs and self.side == other.side

    def __str__(self):
        return f"oneway {self.studs} {self.side}"


class NearerStud(Counted):
    """A stud stands nearer than another one, both by their nearest steps."""

    def __init__(self, one, other):
        need_count(one, "one")
        need_count(other, "other")
        if one == other:
            raise BadCounted("other")
        self.one = one
        self.other = other

    def holds(self, stem):
        need_stem(stem, "stem")
        square = stem.square(nearest_step(self.one, stem.turn))
        return square.is_below(stem.square(nearest_step(self.other, stem.turn)))

    def places(self, low, high):
        ties = [spaced(Ratio(1, 2 * many), Ratio(1, many), low, high) for many in (self.one, self.other)]
        return ties[0] + ties[1]

    def piece_between(self, low, high):
        middle = (low + high) * Ratio(1, 2)
        square = Row.of_square(nearest_step(self.one, middle))
        return (Told.above(Row.of_square(nearest_step(self.other, middle)) - square),)

    def __eq__(self, other):
        return isinstance(other, NearerStud) and self.one == other.one and self.other == other.other

    def __str__(self):
        return f"nearerstud {self.one} {self.other}"


def need_count(value, part):
    if not is_within(value, 1, MOST_STUDS):
        raise BadCounted(part)


def need_two(right, left):
    need_count(right, "right")
    need_count(left, "left")
    if gcd(right, left) > 1:
        raise Common(gcd(right, left))


def leaning(right, left, turn):
    """The steps of the last open stretch that begins at the turn or below: neighbours with so many studs."""
    begin = -inverse(left, right) % right
    whole = (turn - Ratio(begin, right)).below
    rounds = begin + whole * right
    return (Step(right, rounds), Step(left, (left * rounds + 1) // right))


def places_of_stretches(right, left, low, high):
    one, other = leaning(right, left, low)
    return spaced(one.corner, Ratio(1), low, high) + spaced(other.corner, Ratio(1), low, high)


def piece_of_leaning(right, left, low, high):
    """D within the open stretch, None if the turns from low to high do not lie in it with its ends."""
    one, other = leaning(right, left, low)
    if other.corner.is_below(high):
        return None
    return TurnAbove(one.corner).told + TurnBelow(other.corner).told


def told_of_net(one, other):
    """That two neighbours are steps of one net."""
    product = Row.of_product(one, other)
    squares = (Row.of_square(one), Row.of_square(other))
    return tuple([Told.least(row) for square in squares for row in (square - product, square + product)])


def nearest_step(studs, turn):
    """The step of so many studs that leads least far aside; at a tie the one of more rounds."""
    return Step(studs, (turn * studs + Ratio(1, 2)).below)


def spaced(begin, space, low, high):
    """All ratios that are so many spaces from begin, strictly between low and high."""
    many = (low - begin).over(space).below + 1
    found = []
    while (begin + space * many).is_below(high):
        found.append(begin + space * many)
        many += 1
    return found


def take_counted(words):
    word = words.take()
    if word in ("rightleft", "seenboth"):
        right = take_count(words)
        left = take_count(words)
        if gcd(right, left) > 1:
            words.refuse()
        return RightLeft(right, left) if word == "rightleft" else SeenBoth(right, left)
    if word == "oneway":
        studs = take_count(words)
        side = words.take()
        if side not in SIDES:
            words.refuse()
        return OneWay(studs, side)
    if word != "nearerstud":
        words.refuse()
    one = take_count(words)
    other = take_count(words)
    if one == other:
        words.refuse()
    return NearerStud(one, other)


def take_count(words):
    many = words.integer()
    if not is_within(many, 1, MOST_STUDS):
        words.refuse()
    return many
