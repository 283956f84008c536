"""Letters, in runs: L from a net to Net(low, third), R to Net(third, high)."""

from spiralsays.nets import Net
from spiralsays.steps import Step


def net_of_letters(whole, runs):
    """The net to which letters lead from the net below Net.first(whole)."""
    low, high = Step(1, whole), Step(1, whole + 1)
    for at, run in enumerate(runs):
        if run == 0:
            continue
        if at % 2 == 0:
            high = high + low * run
        else:
            low = low + high * run
    return Net(low, high)


def begin_of(runs, many):
    """The runs of so many letters, the first ones."""
    found = []
    for run in runs:
        if many == 0:
            break
        found.append(min(run, many))
        many = many - found[-1]
    return tuple(found)


def begin_alike(one, other):
    """The runs of the letters with which both begin."""
    found = []
    for run, beside in zip(one, other):
        found.append(min(run, beside))
        if run != beside:
            break
    return () if found == [0] else tuple(found)


def is_begin(one, other):
    """Whether the letters of one are the first ones of other."""
    return begin_alike(one, other) == tuple(one)
