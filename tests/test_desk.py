"""The desk: each line, what cannot stand in it, runs, taking back, lines told anew."""

import random
import time
import unittest

from spiralsays.books import Book
from spiralsays.carried import carried_book
from spiralsays.clashes import clash
from spiralsays.counted import OneWay, RightLeft
from spiralsays.desk import Desk
from spiralsays.errors import (
    BadDesk, BadLine, BadNumber, BadPaper, BadText, Common, Impossible, NoDeed, NoName, SpiralError, TooMany,
)
from spiralsays.fits import fit, simplest_turn
from spiralsays.heights import Heights, Tie
from spiralsays.net_words import sure_net
from spiralsays.ratios import Ratio
from spiralsays.reader import value_text
from spiralsays.rises import greatest_rise
from spiralsays.rolled import rolled
from spiralsays.rows import Row, Told
from spiralsays.sayings import LeansRight, Shorter, TurnAbove
from spiralsays.stem_nets import nets_of
from spiralsays.stems import Stem
from spiralsays.steps import Step
from spiralsays.strikes import strikes
from spiralsays.tables import Table
from spiralsays.tied_fits import fit_heights, word_heights
from spiralsays.tight import tightest
from spiralsays.told_counts import CountBook, fit_counts
from spiralsays.turns import sure_road
from spiralsays.windows import Window
from spiralsays.words import word_of
from helpers import ANY, check_raises
from heights_by_hand import TWO
from some_books import BLUNT, EVEN, FLAT

SIX = Stem(Ratio(5, 14), Ratio(1, 7))
CHANGING = ("keep", "see", "drop", "tie", "carry", "left", "forget")


def told_desk():
    """A desk with a value of many kinds."""
    desk = Desk()
    desk.run([
        "keep b book -", f"keep even book {EVEN}", f"keep never book {BLUNT}", f"keep stem stem {SIX}", "keep t table 3 1 -1 0", f"keep two heights {TWO}", "keep s step 3 1",
        "keep p kept < stem 1/3 2/15 >", "keep one heights -", "keep nine9 told zero 0 0 0",
    ])
    return desk


def state(desk):
    """All that can be seen of a desk."""
    return desk.names, tuple(value_text(desk.value_of(name)) for name in desk.names), desk.lines(), len(desk), desk.tell("names")


class Lines(unittest.TestCase):
    def check_answers(self, desk, pairs):
        for line, answer in pairs:
            self.assertEqual(desk.tell(line), answer, line)

    def test_changing_lines(self):
        desk = told_desk()
        self.check_answers(desk, [
            ("keep b book -", "kept"), ("see b aslong 1 0 2 1", "0"), ("see b isnet 1 0 2 1", "1 2 3"), ("see b rows zero 0 0 0 , least 0 0 1", "4 5"), ("drop b 5", "dropped"), ("drop b 0", "dropped"),
            ("text b", "book least -2 1 0 , least 3 -1 0 , least 6 -5 1 , zero 0 0 0"), ("tie two 1 0 least", "tied"), ("text two", "heights zero 5 -2 0 | zero 16 -14 3 ; 0 1 above , 1 0 least"), ("fit two", "never"),
            ("carry new even t", "carried"), ("text new", value_text(carried_book(EVEN, Table(Step(3, 1), Step(-1, 0))))), ("carry even even t", "carried"), ("left l never 1", "left"),
            ("text l", value_text(strikes(BLUNT, 1))), ("left k never 0", "stuck"), ("left never never 2", "left"), ("text never", value_text(strikes(BLUNT, 2))), ("left z b 2", "left"), ("text z", value_text(strikes(Book.read("least -2 1 0 , least 3 -1 0 , least 6 -5 1 , zero 0 0 0"), 2))),
            ("forget l", "forgotten"), ("forget even", "forgotten"), ("names", "b never new nine9 one p s stem t two z"),
        ])
        self.assertNotIn("k", desk)

    def test_asking_lines(self):
        desk = told_desk()
        before = state(desk)
        self.check_answers(desk, [
            ("text s", "step 3 1"), ("text p", "kept < stem 1/3 2/15 >"), ("names", "b even never nine9 one p s stem t two"), ("fit b", f"post {fit(Book()).stem}"), ("fit even", f"post {fit(EVEN).stem}"), ("fit never", "never"),
            ("fit two", "post " + " ".join(map(str, (fit_heights(TWO).turn, *fit_heights(TWO).squares)))), ("fit one", "post 0 " + str(fit_heights(Heights([Book()])).squares[0])), ("word even leansright 3 1", word_of(EVEN, LeansRight(Step(3, 1))).word),
            ("word even shorter 3 1 2 1", "nowhere"), ("word even aslong 3 1 2 1", "always"), ("word b aslong 3 1 2 1", "both"), ("heard two 0 turnabove 3/8", "always"), ("heard two 1 turnbelow 5/13", "both"), ("heard two 0 turnatmost 3/8", "nowhere"),
            ("counts b 0 1 rightleft 8 5", f"post {fit_counts(CountBook(Book(), Window(0, 1), [RightLeft(8, 5)])).stem}"), ("counts b 1/3 3/8 rightleft 8 5", "never"),
            ("counts even 0 1 oneway 2 left , oneway 5 right", f"post {fit_counts(CountBook(EVEN, Window(0, 1), [OneWay(2, 'left'), OneWay(5, 'right')])).stem}"), ("counts b 0 1 " + " , ".join(["oneway 2 left"] * 6), f"post {fit_counts(CountBook(Book(), Window(0, 1), [OneWay(2, 'left')] * 6)).stem}"),
            ("turn even", str(simplest_turn(EVEN).turn)), ("turn b", "0"), ("between even 10", " ".join(str(one) for one in tightest(EVEN, Row(0, 1, 0), 10).parts[:2])), ("between b 10", "- -"), ("between even 1", "0 1"),
            ("rise even", str(greatest_rise(EVEN).bound)), ("rise b", "endless"), ("net b", f"unsure {sure_net(Book()).one} {sure_net(Book()).other}"), ("road b", "roadless"), ("road even", str(sure_road(EVEN).road) if sure_road(EVEN) else "roadless"),
            ("nets stem", "1 0 2 1"), ("rolled stem 2 1", str(rolled(SIX, Step(2, 1))[0])), ("rolled stem 0 -1", "5/14 1/7"), ("clash never", "0 1"), ("clash even", "-"), ("clash b", "-"), ("shown even p", "yes"), ("shown b p", "yes"), ("shown never p", "no"), ("shown even stem", "no"),
        ])
        self.assertEqual(state(desk), before)

    def test_more_answers(self):
        desk = Desk()
        self.check_answers(desk, [
            ("names", "-"), ("keep u book zero 2 -1 0", "kept"), ("net u", "1 0 1 1"), ("keep a stem 0 1", "kept"), ("nets a", "1 -1 0 1 , 1 0 0 1"), ("keep f book above -1 0 1/2", "kept"), ("rise f", "1/2"), ("keep r book zero 0 1 -2/5", "kept"),
            ("road r", "0 ended 1 1"), ("keep e book zero 0 1 -7", "kept"), ("road e", "7 edge"), ("keep o book least 0 1 -3/8 , least 0 -1 2/5", "kept"), ("road o", "0 open 1 1"), ("between o 7", "1/3 2/5"), ("keep h book least 0 1 -1/2", "kept"), ("between h 3", "1/2 -"),
            ("keep h heights - | - ; 0 1 above", "kept"), ("heard h 0 turnis 0", "both"), ("keep a clash ( 0 1 ) onestep", "kept"), ("text a", "clash ( 0 1 ) onestep"), ("shown u a", "no"), ("keep a clash ( 0 1 ) -", "kept"), ("text a", "clash ( 0 1 ) -"),
        ])

    def test_a_name_given_anew(self):
        desk = told_desk()
        desk.tell("keep b stem 0 1")
        self.assertEqual((desk.tell("text b"), desk.tell("nets b")), ("stem 0 1", "1 -1 0 1 , 1 0 0 1"))
        self.check_bad(desk, "fit b", BadText(0, 1))
        desk.tell("carry b even t")
        self.assertEqual(desk.value_of("b"), carried_book(EVEN, Table(Step(3, 1), Step(-1, 0))))

    def check_bad(self, desk, line, error):
        """That a line raises this error, and leaves the desk as it was."""
        before = state(desk)
        number = self.count(desk)
        with self.assertRaises(BadLine) as caught:
            desk.tell(line)
        found = caught.exception
        self.assertEqual(found.line, number, line)
        self.assertIs(type(found.error), type(error), line)
        self.assertEqual({name: value for name, value in vars(found.error).items() if name != "paper"}, {name: value for name, value in vars(error).items() if name != "paper"}, line)
        if isinstance(error, Impossible):
            self.assertEqual(found.error.paper, error.paper)
        self.assertEqual(self.count(desk), number)
        self.assertEqual(state(desk)[:4], before[:4])

    def count(self, desk):
        """How many lines were answered, by what a line raises that no desk can read."""
        try:
            desk.tell("")
        except BadLine as found:
            return found.line

    def test_words_that_cannot_stand(self):
        desk = told_desk()
        for line, word in (
            ("", 0), (" ", 0), ("keeps b book -", 0), ("Fit b", 0), ("b", 0), ("fit  b", 1), (" fit b", 0), ("fit b ", 2), ("keep", 1), ("keep b", 2), ("keep b book", 3), ("keep B book -", 1), ("keep 1b book -", 1), ("keep b1_ book -", 1),
            ("keep " + "a" * 13 + " book -", 1), ("keep  book -", 1), ("keep b books -", 2), ("keep b book - -", 4), ("keep b step 0 0", 4), ("keep b stem 1/2 1/4", 4), ("keep b kept", 3), ("keep b kept < stem 1/2 >", 6), ("keep b kept - -", 4), ("keep b 5", 2),
            ("see", 1), ("see x turnis 0", 1), ("see stem turnis 0", 1), ("see two turnis 0", 1), ("see b", 2), ("see b turn 0", 2), ("see b turnis", 3), ("see b turnis 0 0", 4), ("see b nearest 2 1 4 1", 6), ("see b rightleft 8 5", 2), ("see b told zero 0 0 0", 2),
            ("drop", 1), ("drop b", 2), ("drop b 0", 2), ("drop even 1", 2), ("drop even -1", 2), ("drop even 0 0", 3), ("drop even 1/2", 2), ("drop even x", 2), ("drop never 2", 2), ("drop one 0", 1), ("drop even 00", 2),
            ("tie", 1), ("tie b 0 1 zero", 1), ("tie two", 2), ("tie two 0", 3), ("tie two 0 0 zero", 3), ("tie two 0 2 zero", 3), ("tie two 2 0 zero", 2), ("tie two 0 1", 4), ("tie two 0 1 below", 4), ("tie two 0 1 zero ,", 5), ("tie one 0 1 zero", 3), ("tie one 1 0 zero", 2),
            ("tie two -1 0 zero", 2), ("carry", 1), ("carry new", 2), ("carry new b", 3), ("carry new b t x", 4), ("carry new t b", 2), ("carry new b b", 3), ("carry new two t", 2), ("carry N b t", 1), ("carry new b 3 1 -1 0", 3),
            ("left", 1), ("left new", 2), ("left new never", 3), ("left new never -1", 3), ("left new never x", 3), ("left new stem 1", 2), ("left new never 1 1", 4), ("left 7 never 1", 1), ("left new never 1/2", 3),
            ("forget", 1), ("forget x", 1), ("forget b b", 2), ("forget B", 1), ("text", 1), ("text x", 1), ("text b b", 2), ("names b", 1), ("names ", 1), ("fit", 1), ("fit x", 1), ("fit stem", 1), ("fit t", 1), ("fit b b", 2), ("fit p", 1),
            ("word", 1), ("word b", 2), ("word two turnis 0", 1), ("word b turnis x", 3), ("word b turnis 0 ,", 4), ("heard", 1), ("heard b 0 turnis 0", 1), ("heard two", 2), ("heard two 2 turnis 0", 2), ("heard two -1 turnis 0", 2), ("heard two 0", 3), ("heard one 1 turnis 0", 2),
            ("heard two 0 turnis", 4), ("heard two 0 0", 3), ("heard two 0 turnis 0 0", 5), ("heard two 1 turnis 0 ,", 5), ("counts", 1), ("counts two 0 1 oneway 2 left", 1), ("counts b", 2), ("counts b 0", 3), ("counts b 0 5/4 oneway 2 left", 3), ("counts b 1 0 oneway 2 left", 3), ("counts b 0 1", 4), ("counts b 0 1 oneway 22 left", 5),
            ("counts b 0 1 oneway 2 left oneway 2 left", 7), ("counts b 0 1 oneway 2 left ,", 8), ("counts b 0 1 oneway 2 left , turnis 0", 8), ("counts b 0 1 " + " , ".join(["oneway 2 left"] * 7), 27), ("counts b 0 1 " + " , ".join(["oneway 2 left"] * 6) + " ,", 27), ("counts b 0 1 rightleft 8 6", 6),
            ("turn", 1), ("turn two", 1), ("turn b 0", 2), ("between", 1), ("between b", 2), ("between b -1", 2), ("between b x", 2), ("between b 3 3", 3), ("between two 3", 1), ("rise", 1), ("rise stem", 1), ("rise b b", 2), ("net", 1), ("net t", 1), ("net b 1", 2), ("road", 1), ("road s", 1), ("road b b", 2),
            ("nets", 1), ("nets b", 1), ("nets stem stem", 2), ("rolled", 1), ("rolled b 2 1", 1), ("rolled stem", 2), ("rolled stem 2", 3), ("rolled stem 0 0", 3), ("rolled stem 2 1 0", 4), ("rolled stem s", 2), ("clash", 1), ("clash two", 1), ("clash b b", 2),
            ("shown", 1), ("shown b", 2), ("shown p b", 1), ("shown b x", 2), ("shown b p p", 3), ("between b 1" + "0" * 60, 2), ("drop even " + "9" * 61, 2), ("keep b book zero 0 0 1" + "0" * 60, 6),
        ):
            self.check_bad(desk, line, BadText(0, word))
        for value in ANY:
            if not isinstance(value, str):
                self.check_bad(desk, value, BadText(0, 0))
        for value in ANY:
            if isinstance(value, str):
                self.check_bad(desk, value, BadText(0, 0))

    def test_errors_of_the_parts(self):
        desk = told_desk()
        never = Impossible(fit(BLUNT))
        for line in ("word never turnis 0", "turn never", "between never 3", "rise never", "net never", "road never"):
            self.check_bad(desk, line, never)
        desk.tell(f"keep nottwo heights {Heights([BLUNT, Book()])}")
        self.check_bad(desk, "heard nottwo 1 turnis 0", Impossible(fit_heights(Heights([BLUNT, Book()]))))
        self.check_bad(desk, "between b 0", BadNumber("bottom"))
        self.check_bad(desk, "between b 1001", BadNumber("bottom"))
        self.check_bad(desk, "between never 1001", BadNumber("bottom"))
        self.check_bad(desk, "left new never 3", BadNumber("most"))
        self.check_bad(desk, "left new b 3", BadNumber("most"))
        self.check_bad(desk, "rolled stem 4 2", Common(2))
        self.check_bad(desk, "rolled stem 0 3", Common(3))
        desk.tell("keep full book " + " , ".join(["above 0 0 0"] * 40))
        for line, error in (("see full turnis 0", TooMany("told", 40)), ("clash full", TooMany("told", 12)), ("left new full 2", TooMany("told", 12))):
            self.check_bad(desk, line, error)
        desk.tell("drop full 7")
        self.check_bad(desk, "see full isnet 1 0 2 1", TooMany("told", 40))
        self.assertEqual(desk.tell("see full turnis 0"), "39")
        desk.tell("keep tied heights - | - ; " + " , ".join(["0 1 least"] * 12))
        self.check_bad(desk, "tie tied 1 0 zero", TooMany("ties", 12))
        self.check_bad(desk, "counts b 0 1 oneway 21 left , oneway 20 left , oneway 19 left", TooMany("cuts", 100))
        low, high = 1, 1
        for _ in range(62):
            low, high = high, low + high
        desk.tell(f"keep fib book zero 0 1 -{low}/{high}")
        self.check_bad(desk, "road fib", TooMany("runs", 60))
        # A value that was made here, with numbers too long for a text.
        desk.run(["keep great table 1 -" + "9" * 60 + " 0 1", "keep c book least 1 0 0", "carry c c great"])
        self.check_bad_text(desk)

    def check_bad_text(self, desk):
        with self.assertRaises(BadLine) as caught:
            desk.tell("text c")
        self.assertEqual((type(caught.exception.error), caught.exception.error.part), (BadPaper, "value"))

    def test_names(self):
        desk = Desk()
        for name in ("a", "z9", "abcdefghijkl", "kept", "book", "keep", "names", "a00000000000"):
            self.assertEqual(desk.tell(f"keep {name} book -"), "kept")
            self.assertEqual(desk.tell(f"fit {name}"), f"post {fit(Book()).stem}")
        self.assertEqual(desk.names, ("a", "a00000000000", "abcdefghijkl", "book", "keep", "kept", "names", "z9"))
        for name in ("", "A", "9z", "a-b", "a_b", "abcdefghijklm", "\u00e4", "-"):
            self.check_bad(desk, f"keep {name} book -", BadText(0, 1))


class Whole(unittest.TestCase):
    def test_values(self):
        desk = told_desk()
        self.assertEqual((len(desk), len(Desk()), Desk().names, Desk().lines()), (10, 0, (), ()))
        self.assertEqual(desk.value_of("even"), EVEN)
        self.assertEqual(desk.value_of(name="two"), TWO)
        self.assertEqual(desk.value_of("stem"), SIX)
        self.assertIs(type(desk.names), tuple)
        for name in desk.names:
            self.assertIn(name, desk)
        for value in [*ANY, "x", "Even", "even ", ["even"], ("b",)]:
            self.assertIs(value in desk, False)
            check_raises(self, NoName(value), desk.value_of, value)

    def test_runs(self):
        desk = told_desk()
        lines = ["keep x book -", "see x turnis 1/3", "fit x", "names", "drop x 0", "left y never 0", "forget x"]
        one, other = told_desk(), told_desk()
        self.assertEqual(one.run(lines), [other.tell(line) for line in lines])
        self.assertEqual(state(one), state(other))
        self.assertEqual(desk.run(lines=()), [])
        self.assertEqual(desk.run(lines=tuple(lines)), one.run(lines))
        for value in ANY:
            if not isinstance(value, (list, tuple)):
                check_raises(self, BadDesk("lines"), desk.run, value)

    def test_runs_that_fail(self):
        lines = ["keep x book -", "see x turnis 1/3", "fit x", "keep even stem 0 1", "drop x 0", "left y never 1", "forget b", "names"]
        for bad, error in (("fit y0", BadText(0, 1)), ("", BadText(0, 0)), (None, BadText(0, 0)), ("turn never", Impossible(None)), ("left q never 3", BadNumber("most")), (["fit", "x"], BadText(0, 0))):
            for at in range(len(lines) + 1):
                desk = told_desk()
                desk.tell("see even turnis 1/3")
                before = state(desk)
                with self.assertRaises(BadLine) as caught:
                    desk.run([*lines[:at], bad, *lines[at:]])
                # Eleven lines and the one of state were answered ahead of the list.
                self.assertEqual((caught.exception.line, type(caught.exception.error)), (12 + at, type(error)))
                self.assertEqual(state(desk), before)
                with self.assertRaises(BadLine) as caught:
                    desk.tell("fit y0")
                self.assertEqual(caught.exception.line, 13)
                # Taken back is what was ahead of the run.
                desk.back()
                self.assertEqual(desk.value_of("even"), EVEN)

    def test_numbers_of_lines(self):
        desk = Desk()
        self.assertRaises(BadLine, desk.tell, "x")
        desk.tell("keep a book -")
        desk.run(["names", "names", "keep a book -"])
        desk.back()
        desk.run([])
        for _ in range(3):
            with self.assertRaises(BadLine) as caught:
                desk.tell("names a")
            self.assertEqual(caught.exception.line, 4)
        with self.assertRaises(BadLine) as caught:
            desk.run(["names"] * 5 + ["names a"])
        self.assertEqual(caught.exception.line, 9)
        with self.assertRaises(BadLine) as caught:
            desk.tell("names a")
        self.assertEqual(caught.exception.line, 4)
        self.assertEqual(desk.names, ("a",))

    def test_back(self):
        desk = told_desk()
        states = [state(desk)]
        lines = [
            "keep x book -", "see x isnet 1 0 2 1", "drop x 1", "keep even book -", "carry even never t", "left x never 1", "left gone never 0", "forget x", "tie two 0 1 zero", "keep x stem 0 1", "forget b", "keep b book zero 0 0 0",
        ]
        for line in lines:
            desk.tell(line)
            states.append(state(desk))
        for number in range(len(lines) - 1, -1, -1):
            desk.tell("names")
            self.assertRaises(BadLine, desk.tell, "fit nobody")
            self.assertIsNone(desk.back())
            self.assertEqual(state(desk), states[number])
        for _ in range(10):
            desk.back()
        self.assertEqual((desk.names, desk.lines()), ((), ()))
        for _ in range(3):
            check_raises(self, NoDeed(), desk.back)
        desk.tell("keep b book -")
        self.assertEqual((desk.names, desk.lines()), (("b",), ("keep b book -",)))
        self.assertRaises(BadLine, desk.run, ["forget b", "names x"])
        desk.back()
        check_raises(self, NoDeed(), desk.back)

    def test_back_after_a_run(self):
        desk = told_desk()
        before = state(desk)
        desk.run(["keep x book -", "names", "see x turnis 0", "fit x"])
        desk.back()
        self.assertEqual(desk.tell("text x"), "book -")
        desk.back()
        self.assertEqual(state(desk), before)

    def test_no_door_into_it(self):
        desk = told_desk()
        before = state(desk)
        answers = desk.run(["names", "fit b"])
        answers.append("more")
        given = ["keep q book -"]
        desk.run(given)
        given.clear()
        self.assertEqual(desk.lines()[-1], "keep q book -")
        desk.back()
        for value in (desk.names, desk.lines(), desk.value_of("even").told, desk.value_of("two").books):
            self.assertIs(type(value), tuple)
        desk.value_of("even").with_told(Told.zero(Row(0, 0, 1)))
        self.assertEqual(state(desk), before)

    def test_lines_told_anew(self):
        chance = random.Random(9)
        asked = ["names"] + [f"{word} {name}" for word in ("text", "fit", "turn", "rise", "net", "road", "clash", "nets") for name in "abc"] + [f"word {name} turnabove 1/3" for name in "abc"]
        for _ in range(60):
            desk = Desk()
            for _ in range(chance.randint(5, 40)):
                name, other = chance.choice("abc"), chance.choice("abc")
                line = chance.choice([
                    f"keep {name} book -", f"keep {name} book {EVEN}", f"keep {name} book {BLUNT}", f"keep {name} stem {SIX}", f"keep {name} table 3 1 -1 0", f"keep {name} heights {TWO}", f"see {name} turnabove 1/3", f"see {name} isnet 1 0 2 1",
                    f"drop {name} 0", f"tie {name} 1 0 least", f"carry {name} {other} {chance.choice('abc')}", f"left {name} {other} {chance.choice('012')}", f"forget {name}", f"fit {name}", "names", "back", "back", "run",
                ])
                try:
                    if line == "back":
                        desk.back()
                    elif line == "run":
                        desk.run([f"keep {name} book {FLAT}", f"see {other} turnis 2/5", chance.choice(["names", "nonsense"])])
                    else:
                        desk.tell(line)
                except SpiralError:
                    pass
            self.assertTrue(all(line.split(" ")[0] in CHANGING for line in desk.lines()))
            again = Desk()
            again.run(list(desk.lines()))
            self.assertEqual((again.names, again.lines(), len(again)), (desk.names, desk.lines(), len(desk)))
            for line in asked:
                self.assertEqual(self.said(desk, line), self.said(again, line))
            for name in desk.names:
                self.assertEqual(desk.value_of(name), again.value_of(name))

    def said(self, desk, line):
        try:
            return desk.tell(line)
        except BadLine as found:
            return type(found.error), getattr(found.error, "word", None)

    def test_what_lines_say_is_what_functions_tell(self):
        desk = told_desk()
        self.assertEqual(desk.tell("heard two 1 shorter 2 1 3 1"), word_heights(TWO, 1, Shorter(Step(2, 1), Step(3, 1))).word)
        self.assertEqual(desk.tell("clash never"), " ".join(map(str, clash(BLUNT).numbers)))
        self.assertEqual(desk.tell("nets stem"), " , ".join(map(str, nets_of(SIX))))
        self.assertEqual(TWO.with_tie(Tie(1, 0, "zero")), (desk.tell("tie two 1 0 zero"), desk.value_of("two"))[1])
        desk.tell("see b turnabove 2/7")
        self.assertEqual(desk.value_of("b"), Book(TurnAbove(Ratio(2, 7)).told))

    def test_short_time(self):
        begin = time.time()
        desk = Desk()
        desk.tell("keep b book -")
        for number in range(400):
            desk.run(["see b turnbelow 2", "fit b", "drop b 0"] + ["names"] * 5)
        for _ in range(800):
            desk.back()
        self.assertEqual(len(desk.lines()), 1)
        self.assertLess(time.time() - begin, 6)


if __name__ == "__main__":
    unittest.main()
