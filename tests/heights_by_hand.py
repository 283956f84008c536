"""Papers of heights, reckoned without the program: told ones of each height, ties, sums; and many heights."""

import random
from fractions import Fraction

from spiralsays.books import Book
from spiralsays.heights import Heights, Tie
from spiralsays.nets import Net
from spiralsays.ratios import Ratio
from spiralsays.rows import Row, Told
from spiralsays.sayings import IsNet
from spiralsays.steps import Step
from spiralsays.tied_fits import KeptHeights, OneStepHeights
from helpers import fraction, is_ratio
from papers_by_hand import contraries, plain
from some_books import BLUNT, EVEN, FLAT, made_up

KINDS = ("zero", "least", "above")


def lines_of(heights):
    return [list(book) for book in heights.books]


def with_more(lines, height, more):
    """The lines with more told ones behind those of a height."""
    return [[*line, *more] if at == height else line for at, line in enumerate(lines)]


def so(kind, value):
    return value == 0 if kind == "zero" else value > 0 if kind == "above" else value >= 0


def row_at(row, turn, squared):
    return fraction(row.a) * squared + fraction(row.b) * turn + fraction(row.c)


def keeps_tied(lines, ties, value):
    """Whether any value is a KeptHeights whose ratios keep told ones and ties."""
    if not isinstance(value, KeptHeights) or not is_ratio(value.turn) or not isinstance(value.squares, tuple):
        return False
    if len(value.squares) != len(lines) or not all(is_ratio(one) for one in value.squares):
        return False
    turn, squares = fraction(value.turn), [fraction(one) for one in value.squares]
    if not all(one > turn * turn for one in squares):
        return False
    if not all(so(told.kind, row_at(told.row, turn, one)) for line, one in zip(lines, squares) for told in line):
        return False
    return all(so(tie.kind, squares[tie.one] - squares[tie.other]) for tie in ties)


def has_at(told, height, value):
    turn, squared = fraction(value.turn), fraction(value.squares[height])
    return all(so(one.kind, row_at(one.row, turn, squared)) for one in told)


def are_ratios(value, many):
    return isinstance(value, tuple) and len(value) == many and all(is_ratio(one) for one in value)


def denies_tied(lines, ties, value):
    """Whether any value is a right OneStepHeights, by adding up the E of each height, D and 1."""
    if not isinstance(value, OneStepHeights):
        return False
    if not isinstance(value.weights, tuple) or len(value.weights) != len(lines):
        return False
    if not all(are_ratios(weights, len(line)) for line, weights in zip(lines, value.weights)):
        return False
    if not are_ratios(value.tie_weights, len(ties)) or not are_ratios(value.times, len(lines)) or not is_ratio(value.rest):
        return False
    if not (value.step is None or isinstance(value.step, Step)):
        return False
    times, rest = [fraction(one) for one in value.times], fraction(value.rest)
    if min(times) < 0 or rest < 0 or (value.step is None) != (sum(times) == 0) or (value.step is not None and value.step.studs <= 0):
        return False
    k, j = (0, 0) if value.step is None else (value.step.studs, value.step.rounds)
    all_told = [(one.kind, fraction(weight)) for line, weights in zip(lines, value.weights) for one, weight in zip(line, weights)]
    all_told += [(tie.kind, fraction(weight)) for tie, weight in zip(ties, value.tie_weights)]
    if any(kind != "zero" and weight < 0 for kind, weight in all_told):
        return False
    squares, b, c = [Fraction(0)] * len(lines), Fraction(0), Fraction(0)
    for height, (line, weights) in enumerate(zip(lines, value.weights)):
        for one, weight in zip(line, weights):
            squares[height] += fraction(weight) * fraction(one.row.a)
            b += fraction(weight) * fraction(one.row.b)
            c += fraction(weight) * fraction(one.row.c)
    for tie, weight in zip(ties, value.tie_weights):
        squares[tie.one] += fraction(weight)
        squares[tie.other] -= fraction(weight)
    if squares != [-k * k * one for one in times] or b != 2 * k * j * sum(times) or c != -j * j * sum(times) - rest:
        return False
    return sum(times) > 0 or rest > 0 or any(kind == "above" and weight > 0 for kind, weight in all_told)


def tie_contraries(tie):
    if tie.kind == "zero":
        return [Tie(tie.one, tie.other, "above"), Tie(tie.other, tie.one, "above")]
    return [Tie(tie.other, tie.one, "above" if tie.kind == "least" else "least")]


def line_denies_tied(stacks, line):
    """Whether any value is a tuple of right OneStepHeights, one for each pair (lines, ties)."""
    if not isinstance(line, tuple) or len(line) != len(stacks):
        return False
    return all(denies_tied(*stack, paper) for stack, paper in zip(stacks, line))


def is_word_tied(lines, ties, height, asked, paper):
    """Whether an Always, a Nowhere or a Both of told ones asked at a height is right; parts of any kind."""
    if paper.word == "always":
        if not isinstance(paper.papers, tuple) or len(paper.papers) != len(asked):
            return False
        return all(
            line_denies_tied([(with_more(lines, height, [against]), ties) for against in contraries(one)], line)
            for one, line in zip(asked, paper.papers)
        )
    if paper.word == "nowhere":
        return denies_tied(with_more(lines, height, asked), ties, paper.paper)
    if not keeps_tied(lines, ties, paper.kept) or not keeps_tied(lines, ties, paper.broken):
        return False
    return has_at(asked, height, paper.kept) and not has_at(asked, height, paper.broken)


def is_word_of_tie(lines, ties, tie, paper):
    if paper.word == "always":
        if not isinstance(paper.papers, tuple) or len(paper.papers) != 1:
            return False
        return line_denies_tied([(lines, [*ties, against]) for against in tie_contraries(tie)], paper.papers[0])
    if paper.word == "nowhere":
        return denies_tied(lines, [*ties, tie], paper.paper)
    kept = keeps_tied(lines, [*ties, tie], paper.kept)
    return kept and keeps_tied(lines, ties, paper.broken) and not keeps_tied(lines, [*ties, tie], paper.broken)


def tie(text):
    return Tie.read(text)


def some_ties(chance, many, most):
    found = []
    for _ in range(chance.randint(0, most) if many > 1 else 0):
        one, other = chance.sample(range(many), 2)
        found.append(Tie(one, other, chance.choice(KINDS)))
    return found


def placed_told(chance, turn, squared, digits=1):
    """A told one that holds at the turn and the squared, often just so."""
    def number():
        return Ratio(chance.randint(-10 ** digits, 10 ** digits), chance.choice([1, 1, 2, 3, 10 ** digits - 1]))
    a, b, c = number(), number(), number()
    value = a * squared + b * turn + c
    kind = chance.choice(["zero", "least", "least", "above", "above"])
    if kind == "zero" or chance.random() < 0.3:
        kind, c = chance.choice(["zero", "least"]), c - value
    elif value.sign < 0:
        a, b, c = -a, -b, -c
    elif value.sign == 0:
        kind = "least"
    return Told(kind, Row(a, b, c))


def made_up_heights(seed, many, digits=1):
    """Heights with books and ties by chance: most told ones, and most ties, hold at one place; a few do not."""
    chance = random.Random(seed)
    found = []
    for _ in range(many):
        turn = Ratio(chance.randint(-4, 4), chance.randint(1, 5))
        levels = [turn * turn + Ratio(chance.randint(1, 6), chance.randint(1, 6)) for _ in range(chance.randint(1, 4))]
        if chance.random() < 0.4:
            levels = [chance.choice(levels) for _ in levels]
        books = []
        for squared in levels:
            told = [placed_told(chance, turn, squared, digits) for _ in range(chance.choice([0, 1, 1, 2, 2, 3, 5]))]
            if chance.random() < 0.12:
                told.append(chance.choice(chance.choice(MADE_UP).told))
            books.append(Book(told))
        ties = some_ties(chance, len(levels), 5)
        if chance.random() < 0.75:
            ties = [one for one in ties if so(one.kind, fraction(levels[one.one]) - fraction(levels[one.other]))]
        found.append(Heights(books, ties))
    return found


MADE_UP = [book for book in made_up(1, 60) if len(book) > 0]
FREE = Book()
A, B, C = Step(3, 1), Step(1, 0), Step(2, 1)
TWO = Heights.read("zero 5 -2 0 | zero 16 -14 3 ; 0 1 above")


def ordered(nets):
    return Heights([Book(IsNet(net).told) for net in nets], [Tie(at, at + 1, "above") for at in range(len(nets) - 1)])


# Each with whether it is possible.
BY_HAND = [
    (Heights([FREE]), True), (Heights([FREE] * 4), True), (Heights([BLUNT]), False), (Heights([EVEN]), True), (Heights([FREE, BLUNT]), False),
    (Heights([FREE, BLUNT, FREE], [tie("0 2 above")]), False), (TWO, True), (Heights([FLAT] * 4, [tie("0 1 above"), tie("1 2 above"), tie("2 3 above")]), True),
    # Heights without a told one; one that says nothing beside one that says much.
    (Heights([FREE] * 4, [tie("0 1 above"), tie("2 1 zero"), tie("3 0 least")]), True),
    (Heights([Book.read("least 0 1 -1/3 , above 0 -1 1/3"), FREE]), False), (Heights([FREE, EVEN], [tie("0 1 least")]), True),
    # Ties in a ring, zero ties that lead back, a height tied to itself by others, above and least ties between the same two.
    (Heights([FREE] * 3, [tie("0 1 least"), tie("1 2 least"), tie("2 0 least")]), True), (Heights([FREE] * 3, [tie("0 1 least"), tie("1 2 above"), tie("2 0 least")]), False),
    (Heights([FREE] * 2, [tie("0 1 zero"), tie("1 0 above")]), False), (Heights([FREE] * 2, [tie("0 1 zero"), tie("1 0 least")]), True),
    (Heights([FREE] * 4, [tie("0 1 zero"), tie("2 1 zero"), tie("3 2 zero"), tie("3 0 above")]), False), (Heights([FREE] * 2, [tie("0 1 above"), tie("0 1 least")]), True),
    (Heights([FREE] * 2, [tie("0 1 above"), tie("1 0 least")]), False), (Heights([FREE] * 2, [tie("0 1 above"), tie("1 0 above")]), False),
    # Each possible, not together: two turns; an E that is bounded by way of a tie; by way of two.
    (Heights.read("zero 0 1 -1/3 | zero 0 1 -1/2"), False), (Heights.read("least -1 0 1/7 | least 1 0 -1/6 ; 0 1 least"), False),
    (Heights.read("least -1 0 1/7 | least 1 0 -1/7 ; 0 1 least"), True), (Heights.read("least -1 0 1/7 | least 1 0 -1/7 ; 0 1 above"), False),
    (Heights.read("least -1 0 1/7 | - | least 1 0 -1/7 ; 0 1 least , 1 2 zero"), True), (Heights.read("least -1 0 1/7 | - | above 1 0 -1/7 ; 0 1 least , 1 2 zero"), False),
    (Heights.read("least -1 0 1/7 | - | least 1 0 -1/7 ; 0 1 least , 1 2 above"), False), (Heights.read("least -1 0 1/7 | least 0 1 -2/5 ; 0 1 above"), False),
    (Heights.read("least -1 0 1/7 | least 0 1 -2/5 ; 1 0 above"), False), (Heights.read("least -1 0 1/7 | least 0 1 -1/3 ; 0 1 above"), True),
    # Ends that are touched and not reached: the bowl's own border; the one E that is left.
    (Heights.read("least -1 0 0 | -"), False), (Heights.read("- | least -1 1 -1/4"), False), (Heights.read("least -1 0 1/9 | least 0 1 -1/3"), False),
    (Heights.read("zero 1 0 -1/7 | zero 1 0 -1/7 ; 0 1 zero"), True), (Heights.read("zero 1 0 -1/7 | zero 1 0 -1/7 ; 0 1 above"), False),
    (Heights.read("zero 1 0 -1/7 | zero 1 0 -1/7 ; 0 1 least , 1 0 least"), True), (Heights.read("above -1 0 1/7 | above 1 0 -1/7 ; 0 1 least"), False),
    # E as D tells it, at one height more than at the other one, up to a turn.
    (Heights.read("zero 5 -2 0 | zero 16 -14 3 ; 1 0 least , 0 1 least"), True), (Heights.read("zero 5 -2 0 , above 0 1 -5/13 | zero 16 -14 3 , above 0 -1 5/13 ; 0 1 above"), False),
    (Heights.read("zero 5 -2 0 , least 0 -1 3/8 | zero 16 -14 3 ; 0 1 above"), False), (Heights.read("zero 5 -2 0 | zero 16 -14 3 ; 1 0 least"), True),
    # Nets in an order; one twice; two that do not follow each other, or not so.
    (ordered([Net(B, C), Net(A, C)]), True), (ordered([Net(A, C), Net(B, C)]), False), (ordered([Net(B, C), Net(B, C)]), True), (ordered([Net.first(0), Net(B, Step(1, 1)), Net(B, C), Net(A, C)]), True),
    (ordered([Net.first(0), Net.first(1)]), True), (ordered([Net.first(0), Net.first(2)]), False), (ordered([Net(B, C), Net(C, Step(1, 1))]), False), (ordered([Net(B, Step(1, 1)), Net(A, C), Net(B, C)]), False),
    # Great numbers.
    (Heights.read(f"above 0 1 -{10 ** 20} | above 0 -1 {10 ** 20 + 1} | least -1 0 {10 ** 40 + 1} ; 2 0 least"), True),
    (Heights.read(f"above 0 1 -{10 ** 20} | above 0 -1 {10 ** 20 + 1} | least -1 0 {10 ** 40} ; 2 0 least"), False),
    (Heights.read("least -1 0 2 , above 0 7 -9 | least 1 0 -1999999/1000000 ; 0 1 least"), True),
]

MANY = [heights for heights, _ in BY_HAND] + made_up_heights(1, 500) + made_up_heights(2, 40, 4)


def other_ways_tied(paper):
    """Right OneStepHeights that are others: another measure, integers for ratios, a step with a divisor, lists for tuples."""
    weights, tie_weights, step, times, rest = paper.parts
    found = [OneStepHeights([[one * 3 for one in line] for line in weights], [one * 3 for one in tie_weights], step, [one * 3 for one in times], rest * 3)]
    found.append(OneStepHeights([[plain(one) for one in line] for line in weights], [plain(one) for one in tie_weights], step, [plain(one) for one in times], plain(rest)))
    if step is not None:
        found.append(OneStepHeights(list(weights), list(tie_weights), step * 2, [one * Ratio(1, 4) for one in times], rest))
    return found


def other_way_tied(paper):
    """The paper, or papers in lists, with each OneStepHeights in it written in another right way."""
    if isinstance(paper, OneStepHeights):
        return other_ways_tied(paper)[-1]
    return [other_way_tied(part) for part in paper]


def bends_tied(value, deep=2):
    """Other values for any value within a paper of heights, near to it."""
    others = [None, True, 0, "1", (), [value], Step(1, 0), Ratio(1, 2), KeptHeights(0, [1]), OneStepHeights([[]], [], None, [0], 0)]
    others = [one for one in others if not (type(one) is type(value) and one == value)]
    if is_ratio(value):
        others += [value + 1, -Ratio.of(value) - 1, Ratio.of(value) * 2 + 1]
    if isinstance(value, Step):
        others += [-value, value * 2, value + Step(1, 7)]
    if isinstance(value, (KeptHeights, OneStepHeights)):
        others += bends_of_paper(value, deep - 1)
    if isinstance(value, tuple):
        others += [value[:-1], (*value, None)] + ([(*value, value[-1]), value[::-1]] if value else [])
        if deep > 0:
            for at in range(len(value)):
                others += [(*value[:at], bent, *value[at + 1:]) for bent in bends_tied(value[at], deep - (not isinstance(value[at], tuple)))]
    return others


def bends_of_paper(paper, deep=2):
    """The paper with one part bent in many ways."""
    kind = type(paper)
    return [kind(*paper.parts[:at], bent, *paper.parts[at + 1:]) for at in range(len(paper.parts)) for bent in bends_tied(paper.parts[at], deep)]
