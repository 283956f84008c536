"""Papers and denials."""

import unittest

from spiralsays.fits import Kept, OneStep
from spiralsays.papers import Denial, Paper, fixed
from spiralsays.ratios import Ratio
from spiralsays.rises import Endless
from spiralsays.stems import Stem
from helpers import ANY


class Papers(unittest.TestCase):
    def test_fixed(self):
        self.assertEqual(fixed([1, [2, (3, [])], None]), (1, (2, (3, ())), None))
        self.assertEqual(fixed([]), ())
        for value in ANY:
            if not isinstance(value, (list, tuple)):
                self.assertIs(fixed(value), value)
        held = {1: [2]}
        self.assertIs(fixed([held])[0], held)
        deep = []
        for _ in range(59):
            deep = [deep]
        found = fixed(deep)
        for _ in range(59):
            self.assertIs(type(found), tuple)
            found = found[0]
        self.assertEqual(found, ())

    def test_kept_as_passed(self):
        paper = Paper("note", [1, [2]], None, True, Ratio(1))
        self.assertEqual(paper.word, "note")
        self.assertEqual(paper.parts, ((1, (2,)), None, True, Ratio(1)))
        self.assertIs(paper.parts[2], True)
        self.assertEqual(Paper("note").parts, ())

    def test_copied(self):
        told = [1, [2]]
        paper = Paper("note", told)
        told[1].append(3)
        told.append(4)
        self.assertEqual(paper.parts, ((1, (2,)),))

    def test_truth(self):
        self.assertIs(bool(Paper("note")), True)
        self.assertIs(bool(Denial("note", 1)), False)
        self.assertTrue(issubclass(Denial, Paper))

    def test_equal(self):
        self.assertEqual(Paper("note", [1]), Paper("note", (1,)))
        self.assertEqual(Paper("note", 1), Paper("note", Ratio(1)))
        self.assertEqual(Paper("note", 1), Paper("note", True))
        self.assertEqual(Denial("note", 1), Denial("note", 1))
        self.assertFalse(Denial("note", 1) != Denial("note", 1))
        for other in (Paper("note", 2), Paper("notes", 1), Paper("note"), Paper("note", 1, 1), Denial("note", 1), "note", (1,), 1, None):
            self.assertFalse(Paper("note", 1) == other)
            self.assertTrue(Paper("note", 1) != other)
        self.assertFalse(Denial("note", 1) == Paper("note", 1))
        stem = Stem(0, 1)
        self.assertFalse(Paper("kept", stem) == Kept(stem))
        self.assertFalse(Kept(stem) == Paper("kept", stem))
        self.assertFalse(Kept(stem) == Endless(stem))
        self.assertEqual(Kept(stem), Kept(stem=Stem(0, 1)))

    def test_classes_of_papers(self):
        paper = OneStep(rest=0, weights=[1, [2]], step="any", times=None)
        self.assertEqual(paper.word, "onestep")
        self.assertEqual(paper.parts, ((1, (2,)), "any", None, 0))
        self.assertEqual((paper.weights, paper.step, paper.times, paper.rest), paper.parts)
        self.assertIsInstance(paper, Denial)


if __name__ == "__main__":
    unittest.main()
