"""Kinds of papers, their texts and those of plain values, and what is read."""

import inspect
import random
import time
import unittest

from spiralsays.books import Book
from spiralsays.check_choice import shows_clash
from spiralsays.check_fits import shows_fit, shows_rise, shows_simplest
from spiralsays.check_nets import shows_sure_nearest, shows_sure_net
from spiralsays.check_roads import shows_road
from spiralsays.clashes import clash
from spiralsays.errors import BadPaper, BadText
from spiralsays.fits import Kept, OneStep, fit, simplest_turn
from spiralsays.map_pieces import sure_nearest
from spiralsays.net_words import sure_net
from spiralsays.paper_kinds import kind_words, made, paper_kind, part_names
from spiralsays.paper_texts import paper_text, read_paper
from spiralsays.papers import Denial, Paper
from spiralsays.ratios import Ratio
from spiralsays.reader import is_shown, kind_of, read_value, value_text
from spiralsays.rises import greatest_rise
from spiralsays.rows import Row, Told
from spiralsays.stems import Stem
from spiralsays.steps import Step
from spiralsays.strikes import Struck
from spiralsays.turns import sure_road
from spiralsays.words import Always, Nowhere
from choice_by_hand import BOOKS, ODD
from helpers import ANY, check_raises, check_wrong
from some_papers import CLASSES, PAPERS, PLAIN, SIX, UPRIGHT

LONG, OVER = "9" * 60, "1" + "0" * 60
OPEN = {"(": ")", "[": "]", "<": ">"}
READERS = {kind: type(value) for kind, value in PLAIN}


def text_by_hand(value, inside=True):
    """The text of a part of a paper, reckoned without the program."""
    if value is None:
        return "-"
    if isinstance(value, (int, str, Ratio)):
        return str(value)
    if isinstance(value, (list, tuple)):
        return " ".join(["(", *[text_by_hand(one) for one in value], ")"])
    if isinstance(value, Paper):
        own = " ".join([type(value).__name__.lower(), *[text_by_hand(one) for one in value.parts]])
        return f"[ {own} ]" if inside else own
    kind = next(kind for kind, one in PLAIN if isinstance(value, type(one)))
    return f"< {kind} {value} >"


def is_number(word):
    top, slash, bottom = word.partition("/")
    for part in (top, bottom) if slash else (top,):
        digits = part[1:] if part.startswith("-") else part
        if not digits or not set(digits) <= set("0123456789") or len(digits) > 60 or str(int(part)) != part:
            return False
    return not slash or (int(bottom) > 1 and str(Ratio(int(top), int(bottom))) == word)


def first_bad(words, kinds=()):
    """The first word of a paper's text that cannot stand, by a stack of what is open; None if the text is whole."""
    stack = []
    due = "kind"
    for at, word in enumerate(words):
        if at < skip_of(stack):
            continue
        if due == "over":
            return at
        if due == "kind":
            if word not in CLASSES:
                return at
            stack.append(["paper", len(inspect.signature(CLASSES[word]).parameters), 0])
        elif due == "closing":
            if word != "]":
                return at
            stack.pop()
            stack[-1][1] -= 1
        elif word == ")" and stack[-1][0] == "list":
            stack.pop()
            stack[-1][1] -= 1
        elif word in OPEN:
            if sum(one[0] == "list" for one in stack) + sum(one[0] == "paper" for one in stack) - 1 == 50:
                return at
            if word == "(":
                stack.append(["list", 0, 0])
            elif word == "[":
                due = "kind"
                continue
            else:
                bad, end = bad_in_plain(words, at)
                if bad is not None:
                    return bad
                stack[-1][1] -= 1
                stack[-1][2] = end + 1
        elif word == "-" or is_number(word) or (word.isascii() and word.isalpha() and word.islower() and len(word) <= 60):
            stack[-1][1] -= 1
        else:
            return at
        due = "part"
        if stack[-1][0] == "paper" and stack[-1][1] == 0:
            due = "over" if len(stack) == 1 else "closing"
    return None if due == "over" else len(words)


def skip_of(stack):
    """Words of a plain value that was read at once."""
    return max([one[2] for one in stack], default=0)


def bad_in_plain(words, at):
    """Of a plain value that begins at a word the first word that cannot stand, None without one, and where it ends."""
    if at + 1 == len(words) or words[at + 1] not in READERS:
        return at + 1, None
    end = words.index(">", at + 2) if ">" in words[at + 2:] else len(words)
    try:
        READERS[words[at + 1]].read(" ".join(words[at + 2:end]))
    except BadText as found:
        return at + 2 + found.word, None
    return (len(words), None) if end == len(words) else (None, end)


class Kinds(unittest.TestCase):
    def test_kinds(self):
        self.assertEqual(kind_words(), tuple(sorted(CLASSES)))
        self.assertEqual(len(kind_words()), 29)
        for kind, one in CLASSES.items():
            names = tuple(inspect.signature(one).parameters)
            self.assertEqual(part_names(kind=kind), names)
            self.assertIs(type(part_names(kind)), tuple)
            for parts in ([None] * len(names), tuple(range(len(names))), ["zero", [1, [2]], Stem(0, 1), A_PAPER, {}, True][:len(names)]):
                found = made(kind=kind, parts=parts)
                self.assertIs(type(found), one)
                self.assertEqual(found, one(*parts))
                self.assertEqual([getattr(found, name) for name in names], list(found.parts))
                self.assertEqual(paper_kind(found), kind)

    def test_wrong(self):
        for value in [*ANY, "paper", "denial", "Kept", "kept ", "step", "stem", "", ["kept"], ("kept",)]:
            check_raises(self, BadPaper("kind"), part_names, value)
            check_raises(self, BadPaper("kind"), made, value, None)
        for kind, one in CLASSES.items():
            many = len(inspect.signature(one).parameters)
            for parts in (None, "abcd"[:many], 1, {}, [0] * (many + 1), [0] * (many - 1), (), {1: 1}):
                check_raises(self, BadPaper("parts"), made, kind, parts)

    def test_paper_kind(self):
        class Lookalike(Kept):
            pass

        for value in [*ANY, Lookalike(None), *[Paper(kind, None) for kind in CLASSES], *[Denial(kind, None) for kind in CLASSES], Kept, "kept"]:
            if type(value).__name__.lower() not in CLASSES:
                self.assertIsNone(paper_kind(value))
        for paper in PAPERS:
            self.assertEqual(paper_kind(paper), type(paper).__name__.lower())
        # A class of another package with the name of a kind.
        other = type("Kept", (Paper,), {"__init__": lambda self: Paper.__init__(self, "kept", None)})
        self.assertIsNone(paper_kind(other()))

    def test_there_are_papers_of_each_kind(self):
        self.assertEqual(sorted({paper_kind(paper) for paper in PAPERS}), sorted(CLASSES))


A_PAPER = OneStep([1], None, 0, 0)


class Texts(unittest.TestCase):
    def test_by_hand(self):
        for paper in PAPERS:
            self.assertEqual(paper_text(paper=paper), text_by_hand(paper, False))
            self.assertEqual(value_text(value=paper), text_by_hand(paper, False))
        for kind, value in PLAIN:
            self.assertEqual(value_text(value), f"{kind} {value}")
            self.assertEqual(kind_of(value=value), kind)
        self.assertEqual(paper_text(Kept([])), "kept ( )")
        self.assertEqual(paper_text(Struck(["a", None, -1, Ratio(-1, 2), Ratio(4, 2)], ())), "struck ( a - -1 -1/2 2 ) ( )")

    def test_there_and_back(self):
        for paper in PAPERS:
            for call in (read_paper, read_value):
                found = call(text=paper_text(paper))
                self.assertIs(type(found), type(paper))
                self.assertEqual(found, paper)
                self.assertEqual(paper_text(found), paper_text(paper))
        # What is written as an integer is read as one, what is not as a Ratio.
        self.assertEqual([type(one) for one in read_paper("kept ( 3 -1/2 - x )").stem], [int, Ratio, type(None), str])
        self.assertIs(shows_clash(ODD, read_paper(paper_text(clash(ODD)))), True)
        for _, value in PLAIN:
            found = read_value(value_text(value))
            self.assertIs(type(found), type(value))
            self.assertEqual(found, value)

    def test_no_texts(self):
        bad = [True, False, 1.5, b"a", {}, {1: 2}, object(), 10 ** 60, -(10 ** 60), Ratio(10 ** 60, 7), Ratio(7, 10 ** 60), "", "A", "a b", "a1", "1", "-", "a" * 61, "\u00e4", Paper("kept", 1), Denial("onestep"),
               Step(10 ** 60, 1), Stem(0, Ratio(1, 10 ** 60)), Book([Told.zero(Row(0, -(10 ** 60), 0))]), Kept, len, ANY[-3]]
        for value in bad:
            for paper in (Kept(value), Always([[], [value]]), Nowhere(Kept([value])), OneStep([], None, value, 0)):
                check_raises(self, BadPaper("paper"), paper_text, paper)
                check_raises(self, BadPaper("value"), value_text, paper)
        for value in ANY:
            if not isinstance(value, Paper) or paper_kind(value) is None:
                check_raises(self, BadPaper("paper"), paper_text, value)
            if kind_of(value) is None:
                check_raises(self, BadPaper("value"), value_text, value)
        for value in (Step(10 ** 60, 1), Stem(0, Ratio(1, 10 ** 60)), Book([Told.zero(Row(0, -(10 ** 60), 0))])):
            check_raises(self, BadPaper("value"), value_text, value)
            check_raises(self, BadPaper("paper"), paper_text, value)
        for value in (10 ** 60 - 1, 1 - 10 ** 60, Ratio(10 ** 60 - 1, 2), Step(10 ** 60 - 1, 1), "a", "a" * 60):
            self.assertEqual(read_paper(paper_text(Kept(value))), Kept(value))

    def test_fifty_brackets(self):
        def lists(many, inside):
            for _ in range(many):
                inside = [inside]
            return inside
        nested = None
        for _ in range(50):
            nested = Kept(nested)
        for paper in (Kept(lists(50, None)), Kept(lists(49, Stem(0, 1))), Kept(lists(48, Kept([1]))), Nowhere(nested), Kept(lists(25, Kept(lists(23, Step(1, 0)))))):
            text = paper_text(paper)
            self.assertEqual(value_text(paper), text)
            self.assertEqual((read_paper(text), read_value(text)), (paper, paper))
            self.assertEqual(max(text.split(" ")[:at].count("(") + text.split(" ")[:at].count("[") + text.split(" ")[:at].count("<") for at in range(len(text.split(" ")) + 1)), 50)
        for paper in (Kept(lists(51, None)), Kept(lists(50, Stem(0, 1))), Kept(lists(49, Kept([1]))), Kept(Nowhere(nested)), Kept(lists(50, Kept(1))), Kept(lists(58, ())), Kept(lists(51, []))):
            check_raises(self, BadPaper("paper"), paper_text, paper)
            check_raises(self, BadPaper("value"), value_text, paper)
        for bracket in ("(", "[ kept", "< step 1 0 >"):
            words = ["kept"] + ["("] * 50 + bracket.split(" ")
            check_raises(self, BadText(0, 51), read_paper, " ".join(words))
            check_raises(self, BadText(0, 51), read_value, " ".join(words))
        check_raises(self, BadText(0, 101), read_paper, "kept" + " [ kept" * 50 + " ( ) " + "] " * 49 + "]")
        self.assertEqual(read_paper("kept" + " [ kept" * 50 + " - " + "] " * 49 + "]"), Kept(nested))
        # As many brackets as you like, one behind another.
        self.assertEqual(len(read_paper("kept ( " + "( ) " * 500 + ")").stem), 500)


class Read(unittest.TestCase):
    def check(self, words):
        text = " ".join(words)
        due = first_bad(words)
        if due is None:
            self.assertEqual(paper_text(read_paper(text)), text)
        else:
            check_raises(self, BadText(0, due), read_paper, text)
        if words[0] not in READERS:
            if due is None:
                self.assertEqual(read_value(text), read_paper(text))
            else:
                check_raises(self, BadText(0, due), read_value, text)

    def test_a_word_bent_left_out_put_in(self):
        chance = random.Random(6)
        alphabet = ["", "(", ")", "[", "]", "<", ">", "-", "0", "-1", "1/2", "4/2", "-0", "01", "zero", "kept", "stem", "onestep", "Kept", "x1", ",", "a" * 61, LONG, OVER, "1/" + OVER, "{", "/", "1/1", "step"]
        for paper in PAPERS:
            words = paper_text(paper).split(" ")
            self.check(words)
            places = range(len(words)) if len(words) < 12 else sorted(chance.sample(range(len(words)), 12))
            for at in places:
                self.check(words[:at] or [""])
                self.check(words[:at] + words[at + 1:] or [""])
                for bent in alphabet:
                    self.check([*words[:at], bent, *words[at + 1:]])
                    self.check([*words[:at], bent, *words[at:]])
            for bent in alphabet:
                self.check([*words, bent])

    def test_many_texts(self):
        """All texts of a few words."""
        chance = random.Random(8)
        alphabet = ["kept", "always", "both", "(", ")", "[", "]", "<", ">", "-", "step", "1", "0", "1/2"]
        for _ in range(30000):
            words = [chance.choice(["kept", "both", "always", "nowhere"])] + [chance.choice(alphabet) for _ in range(chance.randint(0, 7))]
            self.check(words)

    def test_by_hand(self):
        for text, word in (
            ("", 0), ("kept", 1), ("kept - -", 2), ("kept ", 1), (" kept -", 0), ("step 1 0", 0), ("kept < stem 1/2 1/4 >", 4), ("kept < stem 1/2 >", 4), ("kept < stem 1/2 1 1 >", 5), ("kept < stem 1/2 1", 5),
            ("kept < >", 2), ("kept < kept - >", 2), ("kept < stem >", 3), ("kept < book - >", None), ("kept < book - ", 4), ("kept < book > >", 3), ("kept <", 2), ("kept < stem", 3), ("kept < heights - ; 0 1 zero >", 6),
            ("kept < road 0 open 0 >", 6), ("kept < road 0 open 1 2 >", None), ("kept ( < road 0 open 1 > )", None), ("kept ( < step 1 0 ) >", 6), ("kept ( 1 ]", 3), ("kept ( 1", 3), ("kept [ kept - )", 4), ("kept [ kept ]", 3),
            ("kept [ - ]", 2), ("kept [ stem 1/2 1 ]", 2), ("kept )", 1), ("kept >", 1), ("both ( ) )", 3), ("kept ( ( ) )", None), ("kept < saying steeper 0 1 3 1 >", 5), ("kept < told below 0 0 0 >", 3), ("paper -", 0),
        ):
            self.assertEqual(first_bad(text.split(" ")), word)
            if word is None:
                self.assertEqual(paper_text(read_paper(text)), text)
            else:
                check_raises(self, BadText(0, word), read_paper, text)

    def test_no_strings(self):
        for value in ANY:
            if not isinstance(value, str):
                check_raises(self, BadText(0, 0), read_paper, value)
                check_raises(self, BadText(0, 0), read_value, value)

    def test_plain_values(self):
        """Words are counted from the kind on."""
        for text, word in (
            ("step 0 0", 2), ("step 1", 2), ("step 1 0 0", 3), ("step", 1), ("Step 1 0", 0), ("told least 0 -1 1/2 1", 5), ("told 0 0 0", 1), ("stem 1/2 1/4", 2), ("book - -", 2), ("book", 1), ("saying nearest 2 1 4 1", 5),
            ("counted rightleft 8 6", 3), ("tie 0 0 zero", 2), ("heights - ; 0 1 zero", 4), ("window 0 5/4", 2), ("road 0 open 1 0", 4), ("net 2 1 1 0", 4), ("table 2 0 1 1", 4), ("row 1 2", 3), ("plain 1", 0), ("ratio 1", 0), ("", 0),
            ("< step 1 0 >", 0), ("( )", 0), ("step 1 0 >", 3), ("5", 0),
        ):
            check_raises(self, BadText(0, word), read_value, text)
            check_raises(self, BadText(0, 0), read_paper, text)

    def test_short_time(self):
        begin = time.time()
        text = "always ( " + "( < stem 1/2 1 > [ onestep ( 1 2 ) < step 3 1 > 1 0 ] ) " * 1200 + ")"
        self.assertLess(len(text), 100000)
        self.assertEqual(paper_text(read_paper(text)), text)
        check_raises(self, BadText(0, len(text.split(" "))), read_paper, text + " -")
        self.assertLess(time.time() - begin, 4)


class Reader(unittest.TestCase):
    def test_kind_of(self):
        for paper in PAPERS:
            self.assertEqual(kind_of(paper), paper_kind(paper))
        for value in ANY:
            plain = [kind for kind, one in PLAIN if isinstance(value, type(one))]
            due = plain[0] if plain else paper_kind(value)
            if due is None or plain or isinstance(value, Paper):
                self.assertEqual(kind_of(value), due)
        for value in (None, 5, Ratio(1), "step", [Step(1, 0)], Paper("kept", 1), Step, object()):
            self.assertIsNone(kind_of(value))
        # Of another class with the name of a plain one.
        other = type("Step", (), {"__str__": lambda self: "3 1"})()
        self.assertIsNone(kind_of(other))
        check_raises(self, BadPaper("value"), value_text, other)
        check_raises(self, BadPaper("paper"), paper_text, Kept(other))

    def test_wrong(self):
        check_wrong(self, lambda book: is_shown(book, None), ("book", "book", Book()))


class IsShown(unittest.TestCase):
    def test_by_the_checks(self):
        checks = {
            "kept": shows_fit, "onestep": shows_fit, "simplest": shows_simplest, "highest": shows_rise, "endless": shows_rise, "surenet": shows_sure_net, "unsure": shows_sure_net,
            "surenearest": shows_sure_nearest, "sureroad": shows_road, "ended": shows_road, "roadless": shows_road, "clash": shows_clash,
        }
        books = BOOKS[:24] + [UPRIGHT, SIX]
        papers = list(PAPERS)
        for book in books:
            papers += [fit(book), clash(book)]
            if fit(book):
                papers += [simplest_turn(book), greatest_rise(book), sure_net(book), sure_nearest(book), sure_road(book)]
        seen = {}
        for book in books:
            for paper in papers:
                due = paper.word in checks and checks[paper.word](book, paper)
                self.assertIs(is_shown(book, paper), due)
                seen[paper.word, due] = True
            for value in ANY:
                if paper_kind(value) is None:
                    self.assertIs(is_shown(book, value), False)
        for word in checks:
            self.assertIn((word, True), seen)
            self.assertIn((word, False), seen)
        self.assertIs(is_shown(book=Book(), value=Kept(Stem(0, 1))), True)
        self.assertIs(is_shown(Book(), Paper("kept", Stem(0, 1))), False)


if __name__ == "__main__":
    unittest.main()
