"""Roads: the nets that are met one behind another as the rise falls, in runs of letters."""

from spiralsays.checks import is_integer, is_list
from spiralsays.errors import BadRoad, TooMany
from spiralsays.fractions import runs_of
from spiralsays.letters import begin_alike, is_begin, net_of_letters
from spiralsays.nets import Net
from spiralsays.ratios import Ratio, need_ratio
from spiralsays.stem_nets import nets_of
from spiralsays.texts import read_whole

MOST_RUNS = 60
KINDS = ("edge", "first", "open", "ended")
WITHOUT_RUNS = ("edge", "first")


class Road:
    """A whole number, runs of letters that lead on below its first net, and a kind."""

    def __init__(self, whole, runs, kind):
        if not is_integer(whole):
            raise BadRoad("whole")
        if not are_runs(runs):
            raise BadRoad("runs")
        if not isinstance(kind, str) or kind not in KINDS or (kind in WITHOUT_RUNS and len(runs) > 0):
            raise BadRoad("kind")
        if len(runs) > MOST_RUNS:
            raise TooMany("runs", MOST_RUNS)
        self.whole = whole
        self.runs = tuple(runs)
        self.kind = kind
        self.letters = sum(self.runs)

    def __eq__(self, other):
        if not isinstance(other, Road):
            return False
        return self.whole == other.whole and self.runs == other.runs and self.kind == other.kind

    def __str__(self):
        return " ".join(words_of_road(self))

    @classmethod
    def read(cls, text):
        return read_whole(text, take_road)


def are_runs(value):
    """Whether any value is a list of runs: the first from 0 on, the others from 1 on, no 0 alone."""
    if not is_list(value) or not all([is_integer(run) for run in value]):
        return False
    if len(value) == 0:
        return True
    return value[0] >= (1 if len(value) == 1 else 0) and all([run >= 1 for run in value[1:]])


def words_of_road(road):
    return [str(road.whole), road.kind] + [str(run) for run in road.runs]


def need_road(value, part):
    if not isinstance(value, Road):
        raise BadRoad(part)


def road_of(ratio):
    turn = need_ratio(ratio, "ratio")
    if turn.is_whole:
        return Road(turn.top, (), "edge")
    return Road(turn.below, runs_of(turn), "ended")


def road_at(stem):
    first = nets_of(stem)[0]
    if stem.turn.is_whole:
        return Road(stem.turn.top, (), "edge")
    if first.high.is_round:
        return Road(first.low.rounds, (), "first")
    # The letters that lead to a net are those of the road that ends with it.
    middle = first.third.corner
    return Road(middle.below, runs_of(middle), "open")


def net_at(road):
    need_road(road, "road")
    if road.kind == "edge":
        return Net.first(road.whole - 1)
    if road.kind == "first":
        return Net.first(road.whole)
    return net_of_letters(road.whole, road.runs)


def turns_of(road):
    need_road(road, "road")
    if road.kind == "edge":
        return (Ratio(road.whole), Ratio(road.whole))
    if road.kind == "first":
        return (Ratio(road.whole), Ratio(road.whole + 1))
    net = net_at(road)
    if road.kind == "ended":
        return (net.third.corner, net.third.corner)
    return (net.low.corner, net.high.corner)


def is_ahead(one, other):
    need_road(one, "one")
    need_road(other, "other")
    if one == other:
        return True
    if one.whole != other.whole or one.kind not in ("first", "open"):
        return False
    if one.kind == "first":
        return other.kind in ("open", "ended")
    return other.kind in ("open", "ended") and is_begin(one.runs, other.runs)


def common(one, other):
    """The last Road that is ahead of both, None without one."""
    need_road(one, "one")
    need_road(other, "other")
    if one == other:
        return one
    if one.whole != other.whole or one.kind == "edge" or other.kind == "edge":
        return None
    if one.kind == "first" or other.kind == "first":
        return Road(one.whole, (), "first")
    return Road(one.whole, begin_alike(one.runs, other.runs), "open")


def take_road(words):
    whole = words.integer()
    kind = words.take()
    if kind not in KINDS:
        words.refuse()
    runs = []
    if kind not in WITHOUT_RUNS:
        # Behind a first run 0 another one is due.
        while runs == [0] or (len(runs) < MOST_RUNS and not words.is_over()):
            runs.append(words.integer())
            if runs[-1] < 0 or (runs[-1] == 0 and len(runs) > 1):
                words.refuse()
    return Road(whole, runs, kind)
