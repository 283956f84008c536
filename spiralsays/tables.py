"""Tables: two neighbours by which the studs are told anew."""

from spiralsays.checks import need_integer
from spiralsays.errors import BadTable
from spiralsays.pairs import are_neighbours, cross, need_neighbours
from spiralsays.steps import Step, need_step, take_step
from spiralsays.texts import read_whole


class Table:
    """The stud is the step that is one stud on anew, the around the new round."""

    def __init__(self, stud, around):
        need_step(stud, "stud")
        need_step(around, "around")
        need_neighbours(stud, around)
        self.stud = stud
        self.around = around

    @property
    def sign(self):
        return cross(self.stud, self.around)

    def elder(self, step):
        need_step(step, "step")
        return Step(
            step.studs * self.stud.studs + step.rounds * self.around.studs,
            step.studs * self.stud.rounds + step.rounds * self.around.rounds,
        )

    def back(self):
        sign = self.sign
        stud = Step(sign * self.around.rounds, -sign * self.stud.rounds)
        return Table(stud, Step(-sign * self.around.studs, sign * self.stud.studs))

    def __mul__(self, other):
        need_table(other, "other")
        return Table(self.elder(other.stud), self.elder(other.around))

    @staticmethod
    def same():
        return Table(Step(1, 0), Step.one_round())

    @staticmethod
    def mirror():
        return Table(Step(1, 0), Step(0, -1))

    @staticmethod
    def put_on(times):
        need_integer(times, "times")
        return Table(Step(1, -times), Step.one_round())

    def __eq__(self, other):
        return isinstance(other, Table) and self.stud == other.stud and self.around == other.around

    def __str__(self):
        return f"{self.stud} {self.around}"

    @classmethod
    def read(cls, text):
        return read_whole(text, take_table)


def need_table(value, part):
    if not isinstance(value, Table):
        raise BadTable(part)


def take_table(words):
    stud = take_step(words)
    around = take_step(words)
    if not are_neighbours(stud, around):
        words.refuse()
    return Table(stud, around)
