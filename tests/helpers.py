"""What the tests share: wrong values, errors with their fields, fractions."""

from fractions import Fraction

from spiralsays.books import Book
from spiralsays.counted import Counted, NearerStud, OneWay, RightLeft, SeenBoth
from spiralsays.heights import Heights, Tie
from spiralsays.nets import Net
from spiralsays.papers import Denial, Paper
from spiralsays.ratios import Ratio
from spiralsays.roads import Road
from spiralsays.rows import Row, Told
from spiralsays.sayings import IsNet, LeansRight, Rows, Saying, Shorter, TurnAbove, TurnAtLeast, TurnAtMost, TurnBelow, TurnIs
from spiralsays.stems import Stem
from spiralsays.steps import Step
from spiralsays.tables import Table
from spiralsays.tied_counts import CountHeights
from spiralsays.tied_fits import KeptHeights
from spiralsays.told_counts import CountBook
from spiralsays.windows import Window
from spiralsays.errors import (
    BadBook, BadCounted, BadHeights, BadNet, BadNumber, BadRatio, BadRoad, BadRow, BadSaying, BadStem, BadStep, BadTable,
    BadTie, BadTold, BadWindow, NoHeight, NoTold,
)

ROW = Row(1, 0, -1)

ANY = [
    None, True, False, 0, 1, 5, -3, 10 ** 80, 1.5, "", "1", "1/2", "1 0", b"1", [], (), [1], (1, 2), [None], {},
    {1: 2}, object(), Ratio(1, 2), Ratio(7), Step(1, 0), Step(0, -2), [Step(1, 0)], Stem(0, 1), Table.same(),
    Net.first(0), ROW, Told.zero(ROW), [Told.zero(ROW)], (Told.zero(ROW), ROW), Book(), Paper("one"), Denial("two", 1),
    Shorter(Step(1, 0), Step(2, 1)), LeansRight(Step(3, 1)), TurnIs(Ratio(1, 3)), Rows([Told.zero(ROW)]), [IsNet(Net.first(0))], [Net.first(1)],
    Road(0, [1, 1], "open"), Road(1, [], "edge"), Window(0, 1), RightLeft(3, 2), OneWay(5, "left"), [SeenBoth(2, 3)],
    (NearerStud(1, 2), OneWay(1, "right")), CountBook(Book(), Window(0, 1), [RightLeft(3, 2)]), Tie(0, 1, "zero"), [Tie(0, 1, "above")],
    Heights([Book()]), [Book(), Book()], CountHeights(Heights([Book()]), Window(0, 1), [[OneWay(2, "right")]]), [[RightLeft(3, 2)], []], KeptHeights(0, [1]),
]


def is_integer(value):
    return type(value) is int


def is_ratio(value):
    return type(value) is int or isinstance(value, Ratio)


def is_list_of(kind):
    def holds(value):
        return isinstance(value, (list, tuple)) and all(isinstance(one, kind) for one in value)
    return holds


def is_a(kind):
    return lambda value: isinstance(value, kind)


# What may be passed for a parameter of a kind, and the error for anything else.
KINDS = {
    "integer": (is_integer, BadNumber),
    "times": (lambda value: is_integer(value) and value != 0, BadNumber),
    "ratio": (is_ratio, BadNumber),
    "plain ratio": (is_ratio, BadRatio),
    "stem ratio": (is_ratio, BadStem),
    "row ratio": (is_ratio, BadRow),
    "step integer": (is_integer, BadStep),
    "step": (is_a(Step), BadStep),
    "table": (is_a(Table), BadTable),
    "stem": (is_a(Stem), BadStem),
    "net": (is_a(Net), BadNet),
    "row": (is_a(Row), BadRow),
    "told": (is_a(Told), BadTold),
    "tolds": (is_list_of(Told), BadBook),
    "book": (is_a(Book), BadBook),
    "number": (lambda value: False, NoTold),
    "saying": (is_a(Saying), BadSaying),
    "sayings": (is_list_of(Saying), BadSaying),
    "saying's tolds": (lambda value: is_list_of(Told)(value) and len(value) > 0, BadTold),
    "length": (lambda value: is_ratio(value) and (value if type(value) is int else value.top) >= 0, BadNumber),
    "road": (is_a(Road), BadRoad),
    "window": (is_a(Window), BadWindow),
    "window ratio": (is_ratio, BadWindow),
    "things": (is_list_of(Counted), BadCounted),
    "some things": (lambda value: is_list_of(Counted)(value) and len(value) > 0, BadCounted),
    "count": (lambda value: is_integer(value) and 1 <= value <= 21, BadCounted),
    "count book": (is_a(CountBook), BadCounted),
    "count heights": (is_a(CountHeights), BadCounted),
    "turn saying": (is_a((TurnAtMost, TurnAtLeast, TurnBelow, TurnAbove, TurnIs)), BadSaying),
    "nets": (lambda value: is_list_of(Net)(value) and len(value) > 0, BadNet),
    "carriable": (is_a((Step, Stem, Row, Told, Book, Saying)), BadSaying),
    "stretchable": (is_a((Stem, Row, Told, Book, Saying)), BadSaying),
    "many": (lambda value: is_integer(value) and value >= 1, BadNumber),
    "saying or thing": (is_a((Saying, Counted)), BadSaying),
    "heights": (is_a(Heights), BadHeights),
    "tie": (is_a(Tie), BadTie),
    "height of two": (lambda value: is_integer(value) and 0 <= value < 2, NoHeight),
    "books": (lambda value: is_list_of(Book)(value) and len(value) > 0, BadBook),
    "ties": (is_list_of(Tie), BadTie),
}


def fields_of(error):
    return vars(error)


def same(one, other):
    """Whether two fields are the same, kinds and all: True is not 1, a Ratio is no integer."""
    if type(one) is not type(other):
        return False
    return one is other or one == other


def check_raises(case, error, call, *args, **named):
    """That the call raises an error of just this class, with just these fields."""
    try:
        result = call(*args, **named)
    except type(error) as found:
        case.assertIs(type(found), type(error))
        expected = fields_of(error)
        case.assertEqual(sorted(fields_of(found)), sorted(expected))
        for name in expected:
            case.assertTrue(same(getattr(found, name), expected[name]), (error, name, getattr(found, name)))
    else:
        case.fail(f"{error!r} is not raised for {args!r}, but {result!r} is returned")


def up_to(least, most):
    """The kind of integers from least to most."""
    return (lambda value: is_integer(value) and least <= value <= most, BadNumber)


def check_wrong(case, call, *params):
    """That each parameter (name, kind, good value) refuses what it must, and the first wrong one comes first."""
    for at, (name, kind, _) in enumerate(params):
        takes, error = kind if isinstance(kind, tuple) else KINDS[kind]
        for value in ANY:
            if takes(value):
                continue
            due = error(value) if error in (NoTold, NoHeight) else error(name)
            for rest in ("good", "bad"):
                args = [good for _, _, good in params]
                args[at] = value
                if rest == "bad":
                    # Whatever follows is wrong, too: this parameter's error comes first.
                    args[at + 1:] = [object() for _ in params[at + 1:]]
                check_raises(case, due, call, *args)


def fraction(ratio):
    return Fraction(ratio) if type(ratio) is int else Fraction(ratio.top, ratio.bottom)


def ratio(value):
    value = Fraction(value)
    return Ratio(value.numerator, value.denominator)


def worth(told, stem):
    row = told.row
    return fraction(row.a) * fraction(stem.squared) + fraction(row.b) * fraction(stem.turn) + fraction(row.c)


def keeps(stem, told):
    """Whether a stem keeps told ones, reckoned without the program."""
    for one in told:
        value = worth(one, stem)
        if not (value == 0 if one.kind == "zero" else value > 0 if one.kind == "above" else value >= 0):
            return False
    return fraction(stem.squared) > fraction(stem.turn) ** 2


def total(told, weights):
    """The three sums of rows times weights, reckoned without the program."""
    rows = [(fraction(one.row.a), fraction(one.row.b), fraction(one.row.c)) for one in told]
    return tuple(sum(fraction(weight) * row[at] for weight, row in zip(weights, rows)) for at in range(3))


def is_one_step(told, paper):
    """Whether a OneStep with parts of the right kinds is right, reckoned without the program."""
    told = list(told)
    if len(paper.weights) != len(told):
        return False
    if any(one.kind != "zero" and fraction(weight) < 0 for one, weight in zip(told, paper.weights)):
        return False
    times, rest = fraction(paper.times), fraction(paper.rest)
    if times < 0 or rest < 0 or (paper.step is None) != (times == 0):
        return False
    studs, rounds = (0, 0) if paper.step is None else (paper.step.studs, paper.step.rounds)
    if paper.step is not None and studs <= 0:
        return False
    due = (-times * studs * studs, 2 * times * studs * rounds, -times * rounds * rounds - rest)
    strict = any(one.kind == "above" and fraction(weight) > 0 for one, weight in zip(told, paper.weights))
    return total(told, paper.weights) == due and (times > 0 or rest > 0 or strict)


def products(stem, net):
    """low . high, low . third, high . third, reckoned without the program."""
    def of(one, other):
        turn, squared = fraction(stem.turn), fraction(stem.squared)
        return one.studs * other.studs * squared - (one.studs * other.rounds + other.studs * one.rounds) * turn + one.rounds * other.rounds
    low, high = net.low, net.high
    third = type(low)(low.studs + high.studs, low.rounds + high.rounds)
    return of(low, high), of(low, third), of(high, third)


def has_net(stem, net):
    flat, one, other = products(stem, net)
    return flat <= 0 and one >= 0 and other >= 0


def is_nearest(stem, one, other):
    """Whether two steps are the nearest two of a stem, in this order, reckoned without the program."""
    k, j, m, i = one.studs, one.rounds, other.studs, other.rounds
    if abs(k * i - m * j) != 1:
        return False
    turn, squared = fraction(stem.turn), fraction(stem.squared)
    first = k * k * squared - 2 * k * j * turn + j * j
    second = m * m * squared - 2 * m * i * turn + i * i
    product = k * m * squared - (k * i + m * j) * turn + j * i
    return first <= second and abs(2 * product) <= first
