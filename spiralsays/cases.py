"""The cases of counted things: the told ones of each, what is put in when something is asked, and its word."""

from spiralsays.check_words import BookProof
from spiralsays.counted import Counted
from spiralsays.cuts import stretches_of
from spiralsays.errors import BadSaying
from spiralsays.sayings import Saying
from spiralsays.words import Always, BookGround, Both, Nowhere


class Case:
    """The ground of a case and its proof; lines of what is against the thing asked; wholes of what tells it."""

    def __init__(self, ground, proof, against, wholes):
        self.ground = ground
        self.proof = proof
        self.against = against
        self.wholes = wholes
        self.paper = None

    def fit_with(self, more):
        """The paper with more put in; what denies the case alone denies it with more."""
        if self.paper is None:
            self.paper = self.ground.fit_with(())
        return self.ground.fit_with(more) if self.paper else self.ground.widened(self.paper, len(more))


def is_thing(asked):
    """Whether a counted thing is asked, no saying."""
    return isinstance(asked, Counted)


def need_asked(value, part):
    if not isinstance(value, (Saying, Counted)):
        raise BadSaying(part)


def told_of_cases(book, window, things):
    """All told ones of each case, those of the book first."""
    found = stretches_of(things, window, ())
    return [book.told + case for stretch in found for case in stretch.cases]


def cases_asked(book, window, things, asked):
    """The cases of some things, where a saying or a counted thing is asked; this one has its own cuts."""
    others = (asked,) if is_thing(asked) else ()
    found = []
    for stretch in stretches_of(things, window, others):
        for case in stretch.cases:
            told = book.told + case
            found.append(case_of(BookGround(told), BookProof(told), asked, stretch.low, stretch.high))
    return found


def case_of(ground, proof, asked, low, high):
    """The case from low to high; without a piece there a thing does not hold at any post of it."""
    if not is_thing(asked):
        against = [[(contrary,) for contrary in one.contrary()] for one in asked.told]
        return Case(ground, proof, against, [asked.told])
    piece = asked.piece_between(low, high)
    if piece is None:
        return Case(ground, proof, [[()]], [])
    return Case(ground, proof, [[(contrary,) for one in piece for contrary in one.contrary()]], [piece])


def word_of_cases(cases, asked):
    """The word of a saying or a counted thing over cases of which one is possible."""
    against = papers_of(cases, [case.against for case in cases])
    broken = kept_among(against)
    if broken is None:
        return Always([entry[0] if is_thing(asked) else entry for entry in against])
    together = papers_of(cases, [[case.wholes] for case in cases])
    kept = kept_among(together)
    if kept is None:
        return Nowhere([entry[0] if is_thing(asked) else entry[0][0] for entry in together])
    ground = cases[0].ground
    return Both(ground.held(kept), ground.held(broken))


def papers_of(cases, entries):
    """For each case lines of papers, with what is put in; the last one has a Kept if there is one."""
    found = []
    for case, lines in zip(cases, entries):
        found.append([[case.fit_with(more) for more in line] for line in lines])
        if kept_among(found[-1:]) is not None:
            break
    return found


def kept_among(entries):
    """The first paper in lines of papers that is no denial, None without one."""
    for entry in entries:
        for line in entry:
            for paper in line:
                if paper:
                    return paper
    return None
