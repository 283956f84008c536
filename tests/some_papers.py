"""Papers of every kind, and plain values of every kind."""

from spiralsays.books import Book
from spiralsays.clashes import Clash, clash
from spiralsays.counted import NearerStud, OneWay, RightLeft, SeenBoth
from spiralsays.fits import Kept, OneStep, Simplest, fit, simplest_turn
from spiralsays.heights import Heights, Tie
from spiralsays.map_pieces import SureNearest, sure_nearest
from spiralsays.measures import EnoughRows, StillBoth, enough
from spiralsays.net_words import SureNet, Unsure, sure_net
from spiralsays.nets import Net
from spiralsays.offers import Cheapest, Follows, cheapest, offers
from spiralsays.ratios import Ratio
from spiralsays.rises import Endless, Highest, NotReached, Reached, greatest_rise, reached
from spiralsays.roads import Road
from spiralsays.rolled import Unalike, sheets_alike
from spiralsays.rows import Row, Told
from spiralsays.sayings import AsLong, LeansRight, Rows, Shorter, TurnIs
from spiralsays.stems import Stem
from spiralsays.steps import Step
from spiralsays.strikes import NotStruck, Struck, strikes
from spiralsays.tables import Table
from spiralsays.tied_fits import KeptHeights, OneStepHeights, fit_heights, word_turn
from spiralsays.tight import Tight, tightest
from spiralsays.told_counts import CountBook, KeptCounts, NoStretch, fit_counts
from spiralsays.turns import Ended, Roadless, SureRoad, sure_road
from spiralsays.windows import Window
from spiralsays.words import Always, Both, Nowhere, word_of
from choice_by_hand import AT_TURN, ODD, R1, R2, SMALL, TWICE
from heights_by_hand import TWO
from some_books import BLUNT, EVEN, FLAT
from some_sayings import A, B, C, SAYINGS
from some_tables import BOOKS, STEMS, TABLES

CLASSES = {
    "always": Always, "both": Both, "cheapest": Cheapest, "clash": Clash, "ended": Ended, "endless": Endless, "enoughrows": EnoughRows, "follows": Follows, "highest": Highest,
    "kept": Kept, "keptcounts": KeptCounts, "keptheights": KeptHeights, "nostretch": NoStretch, "notreached": NotReached, "notstruck": NotStruck, "nowhere": Nowhere,
    "onestep": OneStep, "onestepheights": OneStepHeights, "reached": Reached, "roadless": Roadless, "simplest": Simplest, "stillboth": StillBoth, "struck": Struck,
    "surenearest": SureNearest, "surenet": SureNet, "sureroad": SureRoad, "tight": Tight, "unalike": Unalike, "unsure": Unsure,
}

KNOWN = Book(TurnIs(Ratio(3, 8)).told)
SIX = Book(AsLong(B, C).told + AsLong(B, A).told)
UPRIGHT = Book.read("zero 2 -1 0")
SOME = Book.read("least 0 1 -3/8 , least 0 -1 2/5")
SEEN = CountBook(Book([Told.zero(Row(5, -2, 0))]), Window(0, 1), [RightLeft(8, 5)])
HALF = CountBook(Book(TurnIs(Ratio(1, 2)).told), Window(0, 1), [RightLeft(8, 5)])

PAPERS = [
    fit(EVEN), fit(BLUNT), fit(Book([Told.above(Row(0, 0, 0))])), simplest_turn(EVEN), simplest_turn(Book()), greatest_rise(FLAT), greatest_rise(Book()), reached(EVEN), reached(FLAT),
    word_of(KNOWN, LeansRight(A)), word_of(KNOWN, LeansRight(C)), word_of(KNOWN, Shorter(A, C)), tightest(Book([Told.least(Row(-1, 0, Ratio(1, 2)))]), Row(0, 1, 0), 100), tightest(Book(), Row(1, 0, 0), 5),
    sure_net(UPRIGHT), sure_net(Book()), sure_nearest(SIX), sure_nearest(Book()), sure_road(SOME), sure_road(KNOWN), sure_road(Book()), fit_counts(SEEN), fit_counts(HALF), fit_heights(TWO),
    fit_heights(Heights([BLUNT, Book()], [Tie(0, 1, "above")])), word_turn(TWO, TurnIs(0)), sheets_alike(STEMS[0], STEMS[1]), clash(ODD), strikes(ODD, 1), strikes(TWICE, 1), enough(AT_TURN, SMALL, [R1]),
    enough(AT_TURN, SMALL, [R2]), cheapest(AT_TURN, SMALL, [R1, R2], [0, 5]), offers(AT_TURN, [Told.least(Row(1, 0, 0)), SMALL.told[0], Told.above(Row(-1, 0, Ratio(1, 8)))]),
    # By hand: None in each place, lists that are empty, papers within papers, lists within lists, other values than are told.
    *[kind(*[None] * (len(kind(*[None] * many).parts)))
      for many, kind in [(1, Kept), (4, OneStep), (2, Both), (3, Cheapest), (5, SureRoad), (6, Tight), (5, OneStepHeights)]],
    Always([]), Always([[], [[]], [[[]], []]]), Always([[Kept(None)]]), Nowhere(Nowhere(Nowhere(OneStep([], None, 0, 0)))), Unsure("kept", "a" * 60), Roadless(-7, Ratio(-3, 2)),
    Kept([Step(1, 0), Table.same(), Stem(0, 1), Net.first(-2), Row(1, 0, Ratio(1, 2)), Told.zero(Row(0, 0, 0)), Book(), BLUNT, LeansRight(A), Road(0, [1, 1], "open"), Window(0, 1), OneWay(3, "left"), Tie(0, 1, "zero"), TWO]),
    Struck([10 ** 60 - 1, 1 - 10 ** 60], Ratio(10 ** 60 - 1, 10 ** 59)), Clash("x", [None, None]),
]

PLAIN = [
    *[("step", step) for step in (A, B, -C, Step.one_round(), Step(10 ** 60 - 1, 0))], *[("table", one) for one in TABLES], *[("stem", one) for one in STEMS],
    *[("net", net) for net in (Net.first(0), Net(B, C), Net(A, C))], *[("row", row) for row in (R1, R2, Row(0, 0, 0))], *[("told", Told(kind, R1)) for kind in ("zero", "least", "above")],
    *[("book", book) for book in BOOKS], *[("saying", saying) for saying in SAYINGS], *[("road", road) for road in (Road(0, [], "edge"), Road(1, [], "first"), Road(-2, [0, 3], "open"), Road(5, [1, 1, 7], "ended"))],
    *[("window", one) for one in (Window(0, 1), Window(Ratio(-1, 3), 0))], *[("counted", one) for one in (RightLeft(8, 5), SeenBoth(1, 2), OneWay(21, "right"), NearerStud(3, 2))],
    *[("tie", Tie(0, 3, kind)) for kind in ("zero", "least", "above")], *[("heights", one) for one in (TWO, Heights([Book()]), Heights([BLUNT, Book(), EVEN], [Tie(2, 0, "zero"), Tie(1, 2, "least")]))],
    ("saying", Rows(BLUNT.told)),
]
