"""Texts: what is read, and which word cannot stand.

Which word cannot stand is told here by all texts of small values: the first word
with which the words so far begin none of them.
"""

import itertools
import unittest

from spiralsays.books import Book
from spiralsays.errors import BadText
from spiralsays.nets import Net
from spiralsays.ratios import Ratio
from spiralsays.rows import Row, Told
from spiralsays.stems import Stem
from spiralsays.steps import Step
from spiralsays.tables import Table
from helpers import ANY, check_raises

LONG = "9" * 60
OVER = "1" + "0" * 60
BENT = ["", "x", "-0", "01", "+1", "4/2", "1/0", "-", ",", OVER, "-" + OVER]
READERS = (Ratio, Step, Table, Stem, Net, Row, Told, Book)


def word_that_cannot_stand(words, texts, begins):
    for at in range(len(words)):
        if tuple(words[:at + 1]) not in begins:
            return at
    return None if tuple(words) in texts else len(words)


def begins_of(texts):
    return {text[:many] for text in texts for many in range(1, len(text) + 1)}


class Read(unittest.TestCase):
    def check_all(self, reader, texts, begins, alphabet, longest):
        """Each sequence of words of an alphabet, up to so many."""
        for many in range(1, longest + 1):
            for words in itertools.product(alphabet, repeat=many):
                self.check(reader, texts, begins, words)

    def check(self, reader, texts, begins, words):
        text = " ".join(words)
        due = word_that_cannot_stand(words, texts, begins)
        if due is None:
            value = reader.read(text)
            self.assertIs(type(value), reader)
            self.assertEqual(str(value), text)
        else:
            check_raises(self, BadText(0, due), reader.read, text)

    def test_no_strings(self):
        for reader in READERS:
            for value in ANY:
                if not isinstance(value, str):
                    check_raises(self, BadText(0, 0), reader.read, value)
            check_raises(self, BadText(0, 0), reader.read, "")
            check_raises(self, BadText(0, 0), reader.read, " ")

    def test_steps(self):
        numbers = range(-3, 4)
        texts = {(str(k), str(j)) for k, j in itertools.product(numbers, numbers) if (k, j) != (0, 0)}
        self.check_all(Step, texts, begins_of(texts), ["0", "1", "-3", "2", "1/2", "", "x", OVER], 3)

    def test_stems(self):
        ratios = ["0", "1", "-1", "1/2", "-3/2", "1/4", "2", "9/4", "5"]
        texts = set()
        for turn, squared in itertools.product(ratios, ratios + ["26"]):
            one, other = Ratio.read(turn), Ratio.read(squared)
            if other.top * one.bottom ** 2 > one.top ** 2 * other.bottom:
                texts.add((turn, squared))
        self.check_all(Stem, texts, begins_of(texts), ratios + ["", "x", "4/2", OVER], 2)
        self.check_all(Stem, texts, begins_of(texts), ["1", "1/2", "2", ""], 3)

    def test_tables(self):
        numbers = range(-2, 4)
        steps = [(k, j) for k, j in itertools.product(numbers, numbers) if (k, j) != (0, 0)]
        pairs = {tuple(map(str, (*one, *other))) for one in steps for other in steps}
        neighbours = {
            tuple(map(str, (*one, *other))) for one in steps for other in steps
            if abs(one[0] * other[1] - other[0] * one[1]) == 1
        }
        # Whether the steps are neighbours shows at the last word only.
        begins = {text for text in begins_of(pairs) if len(text) < 4} | neighbours
        self.check_all(Table, neighbours, begins, ["0", "1", "-1", "2", "3", "x"], 4)
        for words in itertools.product(["0", "1"], ["0", "1"], ["0", "-1"], ["0", "1"], ["", "1"]):
            self.check(Table, neighbours, begins, words)

    def test_nets(self):
        texts = set()
        for k, j, m, i in itertools.product(range(1, 6), range(-5, 6), range(0, 6), range(-30, 31)):
            if k * i - m * j == 1 and (m > 0 or i > 0):
                texts.add(tuple(map(str, (k, j, m, i))))
        self.check_all(Net, texts, begins_of(texts), ["0", "1", "-1", "2", "3", "5", "-4", "x", ""], 4)
        for text in sorted(texts)[::40]:
            self.check(Net, texts, begins_of(texts), (*text, "1"))
            self.check(Net, texts, begins_of(texts), (*text, ""))

    def check_bent(self, reader, text):
        """A text of ratios and kinds with a word bent, left out, put in: each word stands alone."""
        words = text.split(" ")
        value = reader.read(text)
        self.assertEqual(str(value), text)
        self.assertEqual(reader.read(str(value)), value)
        for at in range(len(words)):
            for bent in BENT:
                if bent != words[at] and not (bent == "-" and at == 0 and reader is Book):
                    check_raises(self, BadText(0, at), reader.read, " ".join([*words[:at], bent, *words[at + 1:]]))
                    check_raises(self, BadText(0, at), reader.read, " ".join([*words[:at], bent, *words[at:]]))
        for many in range(1, len(words)):
            if not (reader is Book and words[many] == ","):
                check_raises(self, BadText(0, many), reader.read, " ".join(words[:many]))
        for extra in ("0", "", "zero", "x"):
            check_raises(self, BadText(0, len(words)), reader.read, f"{text} {extra}")
        check_raises(self, BadText(0, 0), reader.read, " " + text)
        check_raises(self, BadText(0, 1), reader.read, text.replace(" ", "  ", 1))

    def test_rows_and_told_ones(self):
        for text in ("0 0 0", "1 -2/3 5", f"{LONG} -{LONG} 1/{LONG}"):
            self.check_bent(Row, text)
            for kind in ("zero", "least", "above"):
                self.check_bent(Told, f"{kind} {text}")
        for text in ("Zero 0 0 0", "below 0 0 0", "0 0 0", "0 zero 0 0"):
            check_raises(self, BadText(0, 0), Told.read, text)
        check_raises(self, BadText(0, 1), Told.read, "zero least 0 0 0")

    def test_books(self):
        for text in ("zero 0 0 0", "zero 1 0 -1/2 , least 0 1 0", "above 0 0 1 , above 0 0 1 , least 5 0 -7/3"):
            self.check_bent(Book, text)
        self.assertEqual(Book.read("-"), Book())
        self.assertEqual(str(Book()), "-")
        for text in ("- -", "- ", "- , zero 0 0 0", "- zero 0 0 0"):
            check_raises(self, BadText(0, 1), Book.read, text)
        check_raises(self, BadText(0, 4), Book.read, "zero 0 0 0 zero 0 0 0")
        check_raises(self, BadText(0, 5), Book.read, "zero 0 0 0 ,")
        check_raises(self, BadText(0, 5), Book.read, "zero 0 0 0 , -")
        check_raises(self, BadText(0, 5), Book.read, "zero 0 0 0 , ,")
        check_raises(self, BadText(0, 0), Book.read, ",")

    def test_long_books(self):
        one = "least 0 0 1"
        for many in (39, 40):
            text = " , ".join([one] * many)
            self.assertEqual(Book.read(text), Book([Told.read(one)] * many))
            self.assertEqual(str(Book.read(text)), text)
        for text in (" , ".join([one] * 41), " , ".join([one] * 40) + " ,", " , ".join([one] * 40) + " ", " , ".join([one] * 40) + " x"):
            check_raises(self, BadText(0, 199), Book.read, text)
        check_raises(self, BadText(0, 195), Book.read, " , ".join([one] * 39) + " ,")

    def test_long_numbers(self):
        for reader, before, after in (
            (Step, "", " 1"), (Step, "1 ", ""), (Table, "1 ", " 0 1"), (Row, "0 0 ", ""), (Stem, "", f" {LONG}/2"),
            (Stem, "0 ", ""), (Net, "1 ", " 0 1"), (Told, "zero 0 ", " 0"), (Ratio, "", ""),
        ):
            word = len(before.split(" ")) - 1
            due = before + LONG + after
            if reader is Stem and before == "":
                # The square of so great a turn is longer than a number in a text may be.
                check_raises(self, BadText(0, 1), reader.read, due)
            else:
                self.assertEqual(str(reader.read(due)), due)
            check_raises(self, BadText(0, word), reader.read, before + OVER + after)
        self.assertEqual(Step.read(f"-{LONG} 7").studs, 1 - 10 ** 60)


if __name__ == "__main__":
    unittest.main()
