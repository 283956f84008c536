"""Stems rolled up anew, stems that are alike, and the check of these."""

import random
import time
import unittest
from fractions import Fraction
from math import gcd

from spiralsays.carried import carried_stem
from spiralsays.check_new import shows_alike
from spiralsays.errors import BadNumber, BadStem, BadStep, Common
from spiralsays.mirrored import mirrored, put_on
from spiralsays.papers import Denial, Paper
from spiralsays.ratios import Ratio
from spiralsays.rolled import Unalike, each_rolled, rolled, sheets_alike
from spiralsays.stem_nets import by_length, nearest_two
from spiralsays.stems import Stem
from spiralsays.steps import Step
from spiralsays.tables import Table
from helpers import ANY, check_raises, check_wrong, fraction, is_nearest, ratio, up_to
from some_tables import A, B, C, ROUND, STEMS, STEPS, TABLES, product_at, square_at

SIX, NARROW = STEMS[0], STEMS[1]
PLAIN = [step for step in STEPS if step.divisor == 1] + [ROUND, -ROUND, Step(-5, -2), Step(10 ** 12 + 1, 10 ** 12), Step(-(10 ** 12), 7)]
# Three steps as long; upright bricks, squares among them; where the round is short.
SHEETS = [SIX, Stem(Ratio(1, 2), 1), Stem(0, 1), Stem(0, 4), Stem(0, Ratio(1, 16)), Stem(Ratio(1, 2), Ratio(1, 2)), Stem(Ratio(1, 2), Ratio(5, 4)), NARROW, Stem(Ratio(2, 5), Ratio(1, 5)), Stem(Ratio(2, 5), Ratio(1, 6)), Stem(Ratio(1, 3), 4)]


def some_stems(seed, many):
    chance = random.Random(seed)
    found = []
    for _ in range(many):
        turn = Fraction(chance.randint(-30, 30), chance.randint(1, 20))
        rise = Fraction(chance.choice([1, 2, 3, 5]), chance.choice([1, 2, 7, 50, 400]))
        found.append(Stem(ratio(turn), ratio(turn * turn + rise)))
    return found


def new_stem(stem, table):
    """The carried stem, reckoned without the program."""
    around = square_at(stem, table.around)
    return Stem(ratio(-product_at(stem, table.stud, table.around) / around), ratio(square_at(stem, table.stud) / around))


def ratios(stem, one, other):
    square = square_at(stem, one)
    return square_at(stem, other) / square, abs(product_at(stem, one, other)) / square


class Rolled(unittest.TestCase):
    def test_turn_and_table(self):
        for stem in STEMS + SHEETS:
            for around in PLAIN:
                found = rolled(stem, around)
                self.assertIs(type(found), tuple)
                new, table = found
                self.assertEqual(table.around, around)
                self.assertEqual(table.stud.studs * around.rounds - around.studs * table.stud.rounds, 1)
                self.assertEqual(new, new_stem(stem, table))
                self.assertTrue(0 <= fraction(new.turn) < 1)
                # Each other neighbour with this cross has another turn.
                for times in (-1, 1):
                    self.assertFalse(0 <= fraction(new_stem(stem, Table(table.stud + around * times, around)).turn) < 1)
                self.assertEqual(rolled(stem=stem, around=around), found)
                self.assertEqual(new.square(B), ratio(square_at(stem, table.stud) / square_at(stem, around)))

    def test_by_the_round(self):
        for stem in STEMS + SHEETS:
            self.assertEqual(rolled(stem, ROUND)[0], put_on(stem, -stem.turn.below))
            self.assertEqual(rolled(stem, ROUND)[1], Table.put_on(-stem.turn.below))
            self.assertEqual(rolled(stem, -ROUND)[0], put_on(stem, -stem.turn.below))

    def test_by_a_step_and_its_opposite(self):
        for stem in STEMS:
            for around in PLAIN:
                self.assertEqual(rolled(stem, around)[0], rolled(stem, -around)[0])
                self.assertEqual(rolled(stem, around)[1].stud, -rolled(stem, -around)[1].stud)

    def test_wrong(self):
        check_wrong(self, rolled, ("stem", "stem", SIX), ("around", "step", A))
        for around, divisor in ((Step(4, 2), 2), (Step(0, -2), 2), (Step(0, 7), 7), (Step(-9, 6), 3), (Step(5, 0), 5)):
            check_raises(self, Common(divisor), rolled, SIX, around)
            check_raises(self, BadStem("stem"), rolled, None, around)
        check_raises(self, BadStep("around"), rolled, SIX, (4, 2))


class EachRolled(unittest.TestCase):
    def shortest(self, stem, many):
        """The first so many upward steps without a common divisor, by trying all of a great field."""
        found = []
        for k in range(0, 61):
            for j in range(-95, 96):
                if gcd(k, j) == 1 and (k > 0 or j > 0):
                    found.append((square_at(stem, Step(k, j)), k, j))
        return [Step(k, j) for _, k, j in sorted(found)[:many]]

    def test_by_all_steps(self):
        for stem in SHEETS + [Stem(Ratio(5, 13), Ratio(25, 169) + Ratio(1, 50)), Stem(Ratio(-7, 5), Ratio(49, 25) + Ratio(1, 20)), Stem(Ratio(1, 2), Ratio(17, 4)), Stem(0, 100)]:
            due = [rolled(stem, step)[0] for step in self.shortest(stem, 12)]
            for many in range(1, 13):
                self.assertEqual(each_rolled(stem, many), tuple(due[:many]), (str(stem), many))
            self.assertEqual(each_rolled(stem=stem, many=3), tuple(due[:3]))

    def test_by_lengths(self):
        # Where few multiples lie between, those without a divisor are the first ones of all steps.
        for stem in some_stems(2, 150) + STEMS:
            steps = [step for step in by_length(stem, 40) if step.divisor == 1][:12]
            self.assertEqual(each_rolled(stem, len(steps)), tuple([rolled(stem, step)[0] for step in steps]))

    def test_far_apart(self):
        # The shortest step's multiples, thousands of them, lie ahead of the next one.
        flat = Stem(0, Ratio(1, 10 ** 8))
        found = each_rolled(flat, 12)
        self.assertEqual([str(one) for one in found[:2]], [str(rolled(flat, B)[0]), str(rolled(flat, ROUND)[0])])
        self.assertEqual(found[2:5], tuple([rolled(flat, step)[0] for step in (Step(1, -1), Step(1, 1), Step(2, -1))]))
        high = Stem(Ratio(1, 3), 10 ** 8)
        self.assertEqual(each_rolled(high, 4), tuple([rolled(high, step)[0] for step in (ROUND, Step(1, 0), Step(1, 1), Step(1, -1))]))

    def test_wrong(self):
        check_wrong(self, each_rolled, ("stem", "stem", SIX), ("many", up_to(1, 12), 3))
        for value in (0, 13, -1, True, Ratio(1)):
            check_raises(self, BadNumber("many"), each_rolled, SIX, value)


class Alike(unittest.TestCase):
    def check_paper(self, one, other):
        paper = sheets_alike(one, other)
        if isinstance(paper, Table):
            self.assertEqual(new_stem(one, paper), other)
        else:
            self.assertIs(type(paper), Unalike)
            for stem, pair in ((one, paper.one), (other, paper.other)):
                self.assertIs(type(pair), tuple)
                self.assertTrue(is_nearest(stem, *pair))
                self.assertTrue(all(step == step.upward for step in pair))
            self.assertNotEqual(ratios(one, *paper.one), ratios(other, *paper.other))
        self.assertEqual(sheets_alike(one=one, other=other), paper)
        return paper

    def test_carried_ones_are_alike(self):
        signs = {}
        for stem in STEMS + SHEETS + some_stems(3, 30):
            for table in TABLES:
                found = self.check_paper(stem, carried_stem(stem, table))
                self.assertIsInstance(found, Table)
                signs[found.sign] = True
        self.assertEqual(sorted(signs), [-1, 1])

    def test_all_pairs(self):
        words = {True: 0, False: 0}
        stems = STEMS + SHEETS + [carried_stem(stem, TABLES[12]) for stem in SHEETS]
        for one in stems:
            for other in stems:
                due = ratios(one, *nearest_two(one)) == ratios(other, *nearest_two(other))
                self.assertIs(isinstance(self.check_paper(one, other), Table), due)
                words[due] += 1
        self.assertGreater(min(words.values()), 60)

    def test_a_stem_and_its_mirror(self):
        for stem in STEMS + SHEETS:
            self.assertIsInstance(self.check_paper(stem, mirrored(stem)), Table)
        # Not symmetric: by tables of sign -1 alone, as of those with sign 1 none leads from it to its mirror.
        self.assertEqual(sheets_alike(NARROW, mirrored(NARROW)).sign, -1)
        for around in [Step(k, j) for k in range(-9, 10) for j in range(-9, 10) if gcd(k, j) == 1]:
            for times in range(-3, 4):
                table = rolled(NARROW, around)[1]
                table = Table(table.stud + around * times if times else table.stud, around)
                self.assertNotEqual(carried_stem(NARROW, table), mirrored(NARROW))

    def test_by_hand(self):
        self.assertEqual(sheets_alike(NARROW, SIX), Unalike((A, C), sheets_alike(NARROW, SIX).other))
        self.assertIsInstance(sheets_alike(SIX, Stem(Ratio(1, 2), 1)), Table)
        self.assertIsInstance(sheets_alike(Stem(0, 1), Stem(Ratio(1, 2), Ratio(1, 2))), Table)
        self.assertIsInstance(sheets_alike(Stem(0, 4), Stem(0, Ratio(1, 4))), Table)
        for one, other in ((Stem(0, 1), Stem(0, 4)), (Stem(0, 1), Stem(Ratio(1, 2), 1)), (SIX, NARROW)):
            self.assertFalse(sheets_alike(one, other))

    def test_classes(self):
        paper = Unalike(one=[1], other=None)
        self.assertEqual((paper.word, paper.parts, paper.one, paper.other, bool(paper)), ("unalike", ((1,), None), (1,), None, False))
        self.assertIsInstance(paper, Denial)

    def test_wrong(self):
        check_wrong(self, sheets_alike, ("one", "stem", SIX), ("other", "stem", NARROW))

    def test_short_time(self):
        begin = time.time()
        chance = random.Random(6)
        for _ in range(100):
            turn = Ratio(chance.randint(1, 10 ** 8), chance.randint(1, 10 ** 8))
            stem = Stem(turn, turn * turn + Ratio(1, chance.randint(1, 10 ** 8)))
            table = TABLES[13]
            self.assertIsInstance(sheets_alike(stem, carried_stem(stem, table)), Table)
            self.assertEqual(len(each_rolled(stem, 12)), 12)
        self.assertLess(time.time() - begin, 8)


class ShowsAlike(unittest.TestCase):
    def test_what_is_returned(self):
        for one in STEMS + SHEETS:
            for other in STEMS[::2] + SHEETS[::2]:
                self.assertIs(shows_alike(one, other, sheets_alike(one, other)), True)

    def test_tables(self):
        for stem in STEMS + SHEETS:
            for table in TABLES:
                new = carried_stem(stem, table)
                for other in TABLES[::2]:
                    self.assertIs(shows_alike(stem, new, other), new_stem(stem, other) == new)
                # Each table that carries it is right: behind one that leaves the new stem as it is, too.
                for same in (Table(-B, -ROUND), Table.same()):
                    self.assertIs(shows_alike(stem, new, table * same), True)
                self.assertIs(shows_alike(new, stem, table.back()), True)
                self.assertIs(shows_alike(stem, NARROW, Table.same()), stem == NARROW)

    def due(self, one, other, value):
        pairs = [(value.one, one), (value.other, other)]
        for pair, stem in pairs:
            if not isinstance(pair, tuple) or len(pair) != 2 or not all(isinstance(step, Step) for step in pair) or not is_nearest(stem, *pair):
                return False
        return ratios(one, *value.one) != ratios(other, *value.other)

    def test_bent(self):
        for one, other in ((NARROW, SIX), (Stem(0, 1), Stem(0, 4)), (SIX, Stem(Ratio(1, 3), 4))):
            paper = sheets_alike(one, other)
            pairs = [paper.one, paper.other, paper.one[::-1], paper.other[::-1], list(paper.one), (-paper.one[0], paper.one[1]), (paper.other[0], -paper.other[1]), (A, C), (B, C), (B, ROUND), (B, A), (A,), (A, C, B), (A, A), (A * 2, C)]
            for first in [*pairs, *ANY]:
                for second in pairs:
                    for value in (Unalike(first, second), Unalike(second, first)):
                        for stems in ((one, other), (other, one), (one, one)):
                            self.assertIs(shows_alike(*stems, value), self.due(*stems, value))

    def test_alike_ones_have_no_denial(self):
        for stem in SHEETS:
            new = carried_stem(stem, TABLES[6])
            self.assertIs(shows_alike(stem, new, Unalike(nearest_two(stem), nearest_two(new))), False)

    def test_other_values(self):
        right = sheets_alike(NARROW, SIX)
        for value in [*ANY, right.parts, Paper("unalike", *right.parts), Denial("unalike", *right.parts)]:
            self.assertIs(shows_alike(NARROW, SIX, value), False)
        self.assertIs(shows_alike(SIX, SIX, (B, ROUND)), False)
        self.assertIs(shows_alike(one=SIX, other=SIX, value=Table.same()), True)
        check_wrong(self, lambda one, other: shows_alike(one, other, None), ("one", "stem", SIX), ("other", "stem", NARROW))


if __name__ == "__main__":
    unittest.main()
