"""Whether papers of words are right, reckoned without the program; and papers bent in many ways."""

from spiralsays.fits import OneStep
from spiralsays.ratios import Ratio
from spiralsays.stems import Stem
from spiralsays.steps import Step
from helpers import ANY, fraction, is_one_step, is_ratio, keeps, ratio


def contraries(told):
    """The pairs (kind, row) of a told one's contraries."""
    kind = type(told)
    if told.kind == "zero":
        return [kind("above", told.row), kind("above", -told.row)]
    return [kind("least" if told.kind == "above" else "above", -told.row)]


def is_plain(paper):
    """Whether a value is a OneStep with parts of the right kinds, so that it can be reckoned."""
    if not isinstance(paper, OneStep) or not isinstance(paper.weights, tuple):
        return False
    if not all(is_ratio(one) for one in (*paper.weights, paper.times, paper.rest)):
        return False
    return paper.step is None or isinstance(paper.step, Step)


def denies(told, paper):
    return is_plain(paper) and is_one_step(told, paper)


def is_always(told, asked, papers):
    """Whether papers are those of an Always of what is asked."""
    if not isinstance(papers, tuple) or len(papers) != len(asked):
        return False
    for one, line in zip(asked, papers):
        due = contraries(one)
        if not isinstance(line, tuple) or len(line) != len(due):
            return False
        if not all(denies([*told, against], paper) for against, paper in zip(due, line)):
            return False
    return True


def is_word(told, asked, paper):
    """Whether an Always, a Nowhere or a Both with parts of any kind is right."""
    if paper.word == "always":
        return is_always(told, asked, paper.papers)
    if paper.word == "nowhere":
        return denies([*told, *asked], paper.paper)
    if not isinstance(paper.kept, Stem) or not isinstance(paper.broken, Stem):
        return False
    return keeps(paper.kept, [*told, *asked]) and keeps(paper.broken, told) and not keeps(paper.broken, asked)


def other_ways(paper):
    """Right OneSteps that are others: another measure, integers for ratios, a step with a divisor, lists for tuples."""
    weights, step, times, rest = paper.parts
    found = [OneStep([one * 3 for one in weights], step, times * 3, rest * 3)]
    found.append(OneStep([plain(one) for one in weights], step, plain(times), plain(rest)))
    if step is not None:
        found.append(OneStep(list(weights), step * 2, times * Ratio(1, 4), rest))
    return found


def plain(value):
    """An integer for a whole ratio."""
    return value.top if isinstance(value, Ratio) and value.is_whole else value


def bends_of(value, deep=True):
    """Other values for a part of a paper, near to it: to be passed instead of it."""
    others = [one for one in ANY if not (type(one) is type(value) and one == value)]
    if is_ratio(value):
        others += [ratio(fraction(value) + 1), ratio(-fraction(value) - 1), ratio(fraction(value) * 2 + 1)]
    if isinstance(value, Step):
        others += [-value, value * 2, value + Step(1, 7)]
    if isinstance(value, Stem):
        others += [Stem(value.turn, value.squared + 100), Stem(value.turn + 1, value.squared + (abs(value.turn) * 3 + 2))]
    if isinstance(value, OneStep):
        others = others[:6]
        for at in range(4):
            others += [OneStep(*value.parts[:at], bent, *value.parts[at + 1:]) for bent in bends_of(value.parts[at], False)]
    if isinstance(value, tuple):
        others += [value[:-1], (*value, None)] + ([(*value, value[-1]), value[::-1]] if value else [])
        for at in range(len(value)):
            inside = bends_of(value[at]) if deep else [None, True, "1", ratio(-1)] + ([ratio(fraction(value[at]) + 1)] if is_ratio(value[at]) else [])
            others += [(*value[:at], bent, *value[at + 1:]) for bent in inside]
    return others


def bends(paper):
    """The paper with one part bent in many ways."""
    kind = type(paper)
    return [
        kind(*paper.parts[:at], bent, *paper.parts[at + 1:])
        for at in range(len(paper.parts)) for bent in bends_of(paper.parts[at])
    ]
