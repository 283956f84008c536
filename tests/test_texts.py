"""Texts: what is read, and which word cannot stand.

Which word cannot stand is told here by all texts of small values: the first word
with which the words so far begin none of them.
"""

import itertools
import unittest
from math import gcd

from spiralsays.books import Book
from spiralsays.counted import Counted, RightLeft
from spiralsays.errors import BadText
from spiralsays.heights import Heights, Tie
from spiralsays.nets import Net
from spiralsays.ratios import Ratio
from spiralsays.roads import Road
from spiralsays.rows import Row, Told
from spiralsays.sayings import LeansRight, Saying
from spiralsays.stems import Stem
from spiralsays.steps import Step
from spiralsays.tables import Table
from spiralsays.windows import Window
from helpers import ANY, check_raises
from some_sayings import SAYINGS

LONG = "9" * 60
OVER = "1" + "0" * 60
BENT = ["", "x", "-0", "01", "+1", "4/2", "1/0", "-", ",", OVER, "-" + OVER]
READERS = (Ratio, Step, Table, Stem, Net, Row, Told, Book, Saying, LeansRight, Road, Window, Counted, RightLeft, Tie, Heights)


def word_that_cannot_stand(words, texts, begins):
    for at in range(len(words)):
        if tuple(words[:at + 1]) not in begins:
            return at
    return None if tuple(words) in texts else len(words)


def stands(text):
    """Whether the last word of a beginning of heights can stand, as one of many ways on tells."""
    many = len(text.split(" "))
    for tail in ("", " -", " 0 0 0", " 0 0", " 0", " 0 1 zero", " 1 zero", " zero", " 1 0 zero", " 0 zero", " zero 0 0 0"):
        try:
            Heights.read(text + tail)
            return True
        except BadText as found:
            if found.word > many:
                return True
    return False


def begins_of(texts):
    return {text[:many] for text in texts for many in range(1, len(text) + 1)}


class Read(unittest.TestCase):
    def check_all(self, reader, texts, begins, alphabet, longest):
        """Each sequence of words of an alphabet, up to so many."""
        for many in range(1, longest + 1):
            for words in itertools.product(alphabet, repeat=many):
                self.check(reader, texts, begins, words)

    def check(self, reader, texts, begins, words):
        text = " ".join(words)
        due = word_that_cannot_stand(words, texts, begins)
        if due is None:
            value = reader.read(text)
            self.assertIsInstance(value, reader)
            self.assertIs(type(value).__bases__[0] if reader in (Saying, Counted) else type(value), reader)
            self.assertEqual(str(value), text)
        else:
            check_raises(self, BadText(0, due), reader.read, text)

    def test_no_strings(self):
        for reader in READERS:
            for value in ANY:
                if not isinstance(value, str):
                    check_raises(self, BadText(0, 0), reader.read, value)
            check_raises(self, BadText(0, 0), reader.read, "")
            check_raises(self, BadText(0, 0), reader.read, " ")

    def test_steps(self):
        numbers = range(-3, 4)
        texts = {(str(k), str(j)) for k, j in itertools.product(numbers, numbers) if (k, j) != (0, 0)}
        self.check_all(Step, texts, begins_of(texts), ["0", "1", "-3", "2", "1/2", "", "x", OVER], 3)

    def test_stems(self):
        ratios = ["0", "1", "-1", "1/2", "-3/2", "1/4", "2", "9/4", "5"]
        texts = set()
        for turn, squared in itertools.product(ratios, ratios + ["26"]):
            one, other = Ratio.read(turn), Ratio.read(squared)
            if other.top * one.bottom ** 2 > one.top ** 2 * other.bottom:
                texts.add((turn, squared))
        self.check_all(Stem, texts, begins_of(texts), ratios + ["", "x", "4/2", OVER], 2)
        self.check_all(Stem, texts, begins_of(texts), ["1", "1/2", "2", ""], 3)

    def test_tables(self):
        numbers = range(-2, 4)
        steps = [(k, j) for k, j in itertools.product(numbers, numbers) if (k, j) != (0, 0)]
        pairs = {tuple(map(str, (*one, *other))) for one in steps for other in steps}
        neighbours = {
            tuple(map(str, (*one, *other))) for one in steps for other in steps
            if abs(one[0] * other[1] - other[0] * one[1]) == 1
        }
        # Whether the steps are neighbours shows at the last word only.
        begins = {text for text in begins_of(pairs) if len(text) < 4} | neighbours
        self.check_all(Table, neighbours, begins, ["0", "1", "-1", "2", "3", "x"], 4)
        for words in itertools.product(["0", "1"], ["0", "1"], ["0", "-1"], ["0", "1"], ["", "1"]):
            self.check(Table, neighbours, begins, words)

    def test_nets(self):
        texts = set()
        for k, j, m, i in itertools.product(range(1, 6), range(-5, 6), range(0, 6), range(-30, 31)):
            if k * i - m * j == 1 and (m > 0 or i > 0):
                texts.add(tuple(map(str, (k, j, m, i))))
        self.check_all(Net, texts, begins_of(texts), ["0", "1", "-1", "2", "3", "5", "-4", "x", ""], 4)
        for text in sorted(texts)[::40]:
            self.check(Net, texts, begins_of(texts), (*text, "1"))
            self.check(Net, texts, begins_of(texts), (*text, ""))

    def check_bent(self, reader, text):
        """A text of ratios and kinds with a word bent, left out, put in: each word stands alone."""
        words = text.split(" ")
        value = reader.read(text)
        self.assertEqual(str(value), text)
        self.assertEqual(reader.read(str(value)), value)
        for at in range(len(words)):
            for bent in BENT:
                if bent != words[at] and not (bent == "-" and at == 0 and reader is Book):
                    check_raises(self, BadText(0, at), reader.read, " ".join([*words[:at], bent, *words[at + 1:]]))
                    check_raises(self, BadText(0, at), reader.read, " ".join([*words[:at], bent, *words[at:]]))
        for many in range(1, len(words)):
            if not (reader is Book and words[many] == ","):
                check_raises(self, BadText(0, many), reader.read, " ".join(words[:many]))
        for extra in ("0", "", "zero", "x"):
            check_raises(self, BadText(0, len(words)), reader.read, f"{text} {extra}")
        check_raises(self, BadText(0, 0), reader.read, " " + text)
        check_raises(self, BadText(0, 1), reader.read, text.replace(" ", "  ", 1))

    def test_rows_and_told_ones(self):
        for text in ("0 0 0", "1 -2/3 5", f"{LONG} -{LONG} 1/{LONG}"):
            self.check_bent(Row, text)
            for kind in ("zero", "least", "above"):
                self.check_bent(Told, f"{kind} {text}")
        for text in ("Zero 0 0 0", "below 0 0 0", "0 0 0", "0 zero 0 0"):
            check_raises(self, BadText(0, 0), Told.read, text)
        check_raises(self, BadText(0, 1), Told.read, "zero least 0 0 0")

    def test_books(self):
        for text in ("zero 0 0 0", "zero 1 0 -1/2 , least 0 1 0", "above 0 0 1 , above 0 0 1 , least 5 0 -7/3"):
            self.check_bent(Book, text)
        self.assertEqual(Book.read("-"), Book())
        self.assertEqual(str(Book()), "-")
        for text in ("- -", "- ", "- , zero 0 0 0", "- zero 0 0 0"):
            check_raises(self, BadText(0, 1), Book.read, text)
        check_raises(self, BadText(0, 4), Book.read, "zero 0 0 0 zero 0 0 0")
        check_raises(self, BadText(0, 5), Book.read, "zero 0 0 0 ,")
        check_raises(self, BadText(0, 5), Book.read, "zero 0 0 0 , -")
        check_raises(self, BadText(0, 5), Book.read, "zero 0 0 0 , ,")
        check_raises(self, BadText(0, 0), Book.read, ",")

    def test_long_books(self):
        one = "least 0 0 1"
        for many in (39, 40):
            text = " , ".join([one] * many)
            self.assertEqual(Book.read(text), Book([Told.read(one)] * many))
            self.assertEqual(str(Book.read(text)), text)
        for text in (" , ".join([one] * 41), " , ".join([one] * 40) + " ,", " , ".join([one] * 40) + " ", " , ".join([one] * 40) + " x"):
            check_raises(self, BadText(0, 199), Book.read, text)
        check_raises(self, BadText(0, 195), Book.read, " , ".join([one] * 39) + " ,")

    def test_sayings(self):
        for saying in SAYINGS:
            text = str(saying)
            self.assertEqual(Saying.read(text), saying)
            self.assertEqual(LeansRight.read(text), saying)
            self.assertIs(type(Saying.read(text)), type(saying))
            words = text.split(" ")
            for at, word in enumerate(words):
                for bent in (*BENT, "Shorter", "1/0"):
                    if bent != word:
                        check_raises(self, BadText(0, at), Saying.read, " ".join([*words[:at], bent, *words[at + 1:]]))
                if at > 0 and word != ",":
                    check_raises(self, BadText(0, at), Saying.read, " ".join(words[:at]))
            check_raises(self, BadText(0, len(words)), Saying.read, text + " 0")
            check_raises(self, BadText(0, len(words)), Saying.read, text + " ")
            check_raises(self, BadText(0, 0), Saying.read, "saying " + text)
            check_raises(self, BadText(0, 0), Saying.read, " " + text)
        for word in ("rows", "shorter", "isnet", "turnis", "longer", "leansleft", "nearest"):
            check_raises(self, BadText(0, 1), Saying.read, word)
            check_raises(self, BadText(0, 1), Saying.read, word + " -")
            check_raises(self, BadText(0, 1), Saying.read, word + " ,")

    def test_sayings_of_steps(self):
        numbers = ("0", "1", "-2", "3", "x")
        whole = [(k, j) for k, j in itertools.product(("0", "1", "-2", "3"), repeat=2) if (k, j) != ("0", "0")]
        for word, refuses in (
            ("shorter", lambda one, other: False), ("steeper", None), ("nearest", lambda one, other: abs(one[0] * other[1] - other[0] * one[1]) != 1),
        ):
            begins = {(word,)} | {(word, one[0]) for one in whole}
            texts = set()
            for one in whole:
                if refuses is None and one[0] == "0":
                    continue
                begins |= {(word, *one)} | {(word, *one, other[0]) for other in whole}
                for other in whole:
                    pair = [tuple(map(int, step)) for step in (one, other)]
                    if (other[0] == "0") if refuses is None else refuses(*pair):
                        continue
                    texts.add((word, *one, *other))
            for many in range(1, 6):
                for words in itertools.product(numbers, repeat=many):
                    self.check(Saying, texts, begins | texts, (word, *words))
        for word in ("leansright", "straightup", "leansleft"):
            texts = {(word, *step) for step in whole if step[0] != "0"}
            begins = {(word,)} | {(word, one) for one in ("0", "1", "-2", "3")} | texts
            for many in range(1, 4):
                for words in itertools.product(numbers, repeat=many):
                    self.check(Saying, texts, begins, (word, *words))

    def test_sayings_of_lengths(self):
        for word in ("nolonger", "longer"):
            check_raises(self, BadText(0, 3), Saying.read, f"{word} 0 1 -1")
            check_raises(self, BadText(0, 3), Saying.read, f"{word} 3 1 -1/2")
            check_raises(self, BadText(0, 3), Saying.read, f"{word} 3 1")
            check_raises(self, BadText(0, 2), Saying.read, f"{word} 0 0 1")
            self.assertEqual(str(Saying.read(f"{word} 0 1 0")), f"{word} 0 1 0")
        for text, word in (("isnet 2 1 1 0", 4), ("isnet 2 1 0 1", 3), ("isnet 0 1 1 0", 1), ("isnet 1 0 0 1 0", 5), ("isnet 1 0 0", 4), ("isnet 4 2 1 1", 2)):
            check_raises(self, BadText(0, word), Saying.read, text)

    def test_long_rows(self):
        one = "least 0 0 1"
        for many in (1, 39, 40):
            text = "rows " + " , ".join([one] * many)
            self.assertEqual(str(Saying.read(text)), text)
        for tail in (f" , {one}", " ,", " ", " x"):
            check_raises(self, BadText(0, 200), Saying.read, "rows " + " , ".join([one] * 40) + tail)
        check_raises(self, BadText(0, 196), Saying.read, "rows " + " , ".join([one] * 39) + " ,")
        check_raises(self, BadText(0, 1), Saying.read, "rows -")

    def test_roads(self):
        texts = {(whole, kind) for whole in ("0", "-3", "12") for kind in ("edge", "first", "open", "ended")}
        runs = [(a,) for a in ("1", "2")] + [(a, b) for a in "012" for b in "12"] + [(a, b, c) for a in "012" for b in "12" for c in "12"]
        texts |= {(whole, kind, *run) for whole in ("0", "-3", "12") for kind in ("open", "ended") for run in runs}
        begins = begins_of(texts)
        for whole in ("0", "-3", "", "x", "1/2", OVER):
            for kind in ("edge", "first", "open", "ended", "Open", "", "0"):
                for many in range(0, 4):
                    for words in itertools.product(["0", "1", "2", "-1", "x"], repeat=many):
                        self.check(Road, texts, begins, (whole, kind, *words))
        for text in ("0", "0 edge", "0 first 1", "0 open 0", "0 open 1 0", "0 open 0 0", "0 ended 1 -1"):
            words = tuple(text.split(" "))
            self.check(Road, texts, begins, words)
        check_raises(self, BadText(0, 3), Road.read, "0 open 0")
        for kind in ("open", "ended"):
            full = f"0 {kind} 0" + " 7" * 59
            self.assertEqual(str(Road.read(full)), full)
            for tail in (" 1", " 0", " ", " x"):
                check_raises(self, BadText(0, 62), Road.read, full + tail)
        self.assertEqual(str(Road.read(f"-{LONG} open {LONG} {LONG}")), f"-{LONG} open {LONG} {LONG}")
        check_raises(self, BadText(0, 3), Road.read, f"0 open 1 {OVER}")

    def test_windows(self):
        ratios = ["0", "1/3", "1", "4/3", "-1", "-1/2", "1/2"]
        texts = set()
        for low, high in itertools.product(ratios, ratios):
            width = Ratio.read(high) - Ratio.read(low)
            if width.sign > 0 and width.compared(1) <= 0:
                texts.add((low, high))
        # A number not told here may stand behind: what begins is settled by the first word alone.
        begins = {(low,) for low in ratios} | texts
        self.check_all(Window, texts, begins, ratios + ["", "x", "2/4", OVER], 2)
        self.check_all(Window, texts, begins, ["0", "1/3", "1", ""], 3)
        self.assertEqual(str(Window.read(f"0 1/{LONG}")), f"0 1/{LONG}")

    def test_counted(self):
        numbers = [str(many) for many in range(1, 22)]
        texts = set()
        for one, other in itertools.product(range(1, 22), range(1, 22)):
            if gcd(one, other) == 1:
                texts |= {("rightleft", str(one), str(other)), ("seenboth", str(one), str(other))}
            if one != other:
                texts.add(("nearerstud", str(one), str(other)))
            texts |= {("oneway", str(one), "right"), ("oneway", str(one), "left")}
        begins = begins_of(texts)
        for word in ("rightleft", "seenboth", "oneway", "nearerstud", "counted", "RightLeft", "", "right"):
            self.check(Counted, texts, begins, (word,))
            for one, other in itertools.product(["0", "1", "6", "21", "22", "-3", "8", "x", "left"], numbers + ["0", "22", "right", "left", "Left", ""]):
                self.check(Counted, texts, begins, (word, one))
                self.check(Counted, texts, begins, (word, one, other))
                self.check(Counted, texts, begins, (word, one, other, "1"))
        check_raises(self, BadText(0, 1), Counted.read, f"oneway {LONG} left")

    def test_ties(self):
        texts = {(one, other, kind) for one in "0123" for other in "0123" for kind in ("zero", "least", "above") if one != other}
        alphabet = ["0", "1", "3", "4", "-1", "zero", "least", "above", "x", "", "01", OVER]
        self.check_all(Tie, texts, begins_of(texts), alphabet, 3)
        for text in texts:
            self.check(Tie, texts, begins_of(texts), (*text, "0"))

    def test_heights(self):
        for text in (
            "-", "- | -", "zero 0 0 0", "zero 0 0 0 | - ; 0 1 zero", "- | least 1 0 -1/2 , above 0 0 1 | - ; 2 0 least , 0 1 above , 0 1 above",
            "- | - | - | - ; 3 0 zero",
        ):
            value = Heights.read(text)
            self.assertEqual((str(value), Heights.read(str(value))), (text, value))
            words = text.split(" ")
            for at, word in enumerate(words):
                for bent in ("", "x", "-0", "|", ";", ",", "5", "4", "zero", OVER):
                    if bent == word or self.may_stand(words, at, bent):
                        continue
                    check_raises(self, BadText(0, at), Heights.read, " ".join([*words[:at], bent, *words[at + 1:]]))
            check_raises(self, BadText(0, len(words)), Heights.read, text + " 0")
            check_raises(self, BadText(0, len(words)), Heights.read, text + " ")
        for text, word in (
            ("", 0), ("- |", 2), ("- -", 1), ("- | - ;", 4), ("- | - ; 0", 5), ("- | - ; 0 1", 6), ("- | - ; 0 0 zero", 5), ("- | - ; 0 2 zero", 5), ("- | - ; 2 0 zero", 4),
            ("- | - ; 0 1 zero ,", 8), ("- | - ; 0 1 zero 0", 7), ("- | - ; 0 1 zero ; 0 1 zero", 7), ("- | - ; 0 1 zero | -", 7), ("- | - ; -", 4), ("- , -", 1),
            ("- | - | - | - | -", 7), ("- | - | - | - |", 7), ("- ; 0 1 zero", 3), ("zero 0 0 0 ; 0 1 zero", 6),
            ("- ;", 2), ("- ; 0", 3), ("- ; 0 0 zero", 3), ("- ; 1 0 zero", 2), ("- ; 0 x zero", 3), ("- ; zero", 2), ("- ; - ", 2), ("zero 0 0 0 ; 4 0 zero", 5), ("- | ; 0 1 zero", 2), ("zero 0 0 0 |", 5), ("zero 0 0 0 ,", 5),
            ("- | - | - ; 0 3 zero", 7), ("- | - | - ; 2 3 zero", 7), ("- | - ; 0 1 below", 6), ("- | - ; 0 1 zero , 0 2 zero", 9),
            ("- | - ; 0 1 zero , 2 0 zero", 8), ("- | - | - ; 0 1 zero , 0 2 zero , 0 3 zero", 15),
        ):
            check_raises(self, BadText(0, word), Heights.read, text)
        full = "- | - ; " + " , ".join(["0 1 least"] * 12)
        self.assertEqual(str(Heights.read(full)), full)
        for tail in (" , 0 1 least", " ,", " "):
            check_raises(self, BadText(0, 51), Heights.read, full + tail)
        book = " , ".join(["least 0 0 1"] * 40)
        self.assertEqual(str(Heights.read(f"{book} | {book}")), f"{book} | {book}")
        check_raises(self, BadText(0, 200 + 199), Heights.read, f"{book} | {book} , least 0 0 1")

    def may_stand(self, words, at, bent):
        """Whether a word instead of another one begins another text of heights."""
        return stands(" ".join([*words[:at], bent]))

    def test_long_numbers(self):
        for reader, before, after in (
            (Step, "", " 1"), (Step, "1 ", ""), (Table, "1 ", " 0 1"), (Row, "0 0 ", ""), (Stem, "", f" {LONG}/2"),
            (Stem, "0 ", ""), (Net, "1 ", " 0 1"), (Told, "zero 0 ", " 0"), (Ratio, "", ""),
            (Saying, "turnis -", "/10"), (Saying, "shorter 1 ", " 1 0"), (Saying, "nolonger 3 1 1/", ""), (Saying, "isnet 1 0 ", " 1"),
            (Saying, "rows least ", " 0 0"), (Road, "", " edge"), (Road, "-", " open 0 3"), (Road, "0 ended 1 ", ""), (Window, "0 1/", ""),
            (Window, "-1/", " 1/2"), (Heights, "- | least 0 0 ", " ; 1 0 zero"),
        ):
            word = before.count(" ")
            due = before + LONG + after
            if reader is Stem and before == "":
                # The square of so great a turn is longer than a number in a text may be.
                check_raises(self, BadText(0, 1), reader.read, due)
            else:
                self.assertEqual(str(reader.read(due)), due)
            check_raises(self, BadText(0, word), reader.read, before + OVER + after)
        self.assertEqual(Step.read(f"-{LONG} 7").studs, 1 - 10 ** 60)


if __name__ == "__main__":
    unittest.main()
