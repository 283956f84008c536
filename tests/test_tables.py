"""Tables: the studs told anew."""

import itertools
import unittest

from spiralsays.errors import NotNeighbours
from spiralsays.steps import Step
from spiralsays.tables import Table
from helpers import ANY, check_raises, check_wrong

SMALL = [Step(k, j) for k, j in itertools.product(range(-3, 4), repeat=2) if (k, j) != (0, 0)]
TABLES = [
    Table(one, other) for one, other in itertools.product(SMALL, SMALL)
    if abs(one.studs * other.rounds - other.studs * one.rounds) == 1
]


class Tables(unittest.TestCase):
    def test_made(self):
        check_wrong(self, Table, ("stud", "step", Step(1, 0)), ("around", "step", Step(0, 1)))
        for one, other in ((Step(2, 0), Step(1, 1)), (Step(1, 0), Step(1, 0)), (Step(3, 1), Step(1, 1))):
            check_raises(self, NotNeighbours(one, other), Table, one, other)
        table = Table(stud=Step(3, 1), around=Step(-1, 0))
        self.assertEqual((table.stud, table.around), (Step(3, 1), Step(-1, 0)))

    def test_sign(self):
        for table in TABLES:
            self.assertEqual(table.sign, table.stud.studs * table.around.rounds - table.around.studs * table.stud.rounds)

    def test_elder(self):
        for table in TABLES[::5]:
            self.assertEqual(table.elder(Step(1, 0)), table.stud)
            self.assertEqual(table.elder(Step(0, 1)), table.around)
            for step in SMALL[::3]:
                studs = step.studs * table.stud.studs + step.rounds * table.around.studs
                rounds = step.studs * table.stud.rounds + step.rounds * table.around.rounds
                self.assertEqual(table.elder(step), Step(studs, rounds))
        check_wrong(self, Table.same().elder, ("step", "step", Step(1, 0)))

    def test_back(self):
        for table in TABLES:
            back = table.back()
            self.assertEqual(back.sign, table.sign)
            for step in SMALL[::4]:
                self.assertEqual(back.elder(table.elder(step)), step)
                self.assertEqual(table.elder(back.elder(step)), step)

    def test_product(self):
        for one, other in itertools.product(TABLES[::4], TABLES[::7]):
            both = one * other
            for step in SMALL[::6]:
                self.assertEqual(both.elder(step), one.elder(other.elder(step)))
        check_wrong(self, lambda other: Table.same() * other, ("other", "table", Table.same()))

    def test_of_their_own(self):
        self.assertEqual(str(Table.same()), "1 0 0 1")
        self.assertEqual(str(Table.mirror()), "1 0 0 -1")
        for times in (-2, 0, 5, 10 ** 70):
            self.assertEqual(str(Table.put_on(times)), f"1 {-times} 0 1")
        check_wrong(self, Table.put_on, ("times", "integer", 1))

    def test_equal(self):
        for one, other in itertools.product(TABLES[::3], TABLES[::3]):
            due = (one.stud, one.around) == (other.stud, other.around)
            self.assertIs(one == other, due)
        for value in ANY:
            if not isinstance(value, Table):
                self.assertFalse(Table.same() == value)


if __name__ == "__main__":
    unittest.main()
