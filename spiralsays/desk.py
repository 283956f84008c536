"""A desk: it keeps values under names, and is told lines."""

from spiralsays.checks import is_list
from spiralsays.desk_answers import ANSWERS
from spiralsays.desk_changes import CHANGES
from spiralsays.errors import BadDesk, BadLine, NoDeed, NoName, SpiralError
from spiralsays.texts import words_in


class Desk:
    """Values by their names; deeds, triples (line, name, a tuple of its value ahead); how many lines were answered."""

    def __init__(self):
        self.kept = {}
        self.deeds = []
        self.answered = 0

    def tell(self, line):
        try:
            answer = self.answer_of(line)
        except SpiralError as found:
            raise BadLine(self.answered, found) from None
        self.answered += 1
        return answer

    def run(self, lines):
        if not is_list(lines):
            raise BadDesk("lines")
        kept, deeds = dict(self.kept), list(self.deeds)
        answers = []
        for line in lines:
            try:
                answers.append(self.answer_of(line))
            except SpiralError as found:
                self.kept, self.deeds = kept, deeds
                raise BadLine(self.answered + len(answers), found) from None
        self.answered += len(answers)
        return answers

    def answer_of(self, line):
        """Does a line; one that raises an error does so ahead of any change."""
        words = words_in(line)
        word = words.take()
        if word in CHANGES:
            change = CHANGES[word]
            deed = change(words, self.kept)
            self.deeds.append((line, deed.name, self.ahead(deed.name)))
            self.put(deed.name, deed.now)
            return deed.answer
        if word not in ANSWERS:
            words.refuse()
        answer = ANSWERS[word]
        return answer(words, self.kept)

    def ahead(self, name):
        """A tuple of the value that a name has, () without one."""
        return (self.kept[name],) if name in self.kept else ()

    def put(self, name, values):
        """The name has this value, in a tuple, or none any more."""
        if len(values) > 0:
            self.kept[name] = values[0]
        elif name in self.kept:
            del self.kept[name]

    def back(self):
        if len(self.deeds) == 0:
            raise NoDeed()
        _, name, values = self.deeds.pop()
        self.put(name, values)

    @property
    def names(self):
        return tuple(sorted(list(self.kept)))

    def value_of(self, name):
        if not isinstance(name, str) or name not in self.kept:
            raise NoName(name)
        return self.kept[name]

    def __len__(self):
        return len(self.kept)

    def __contains__(self, x):
        """Whether any value is a name that it has."""
        return isinstance(x, str) and x in self.kept

    def lines(self):
        """The changing lines but those taken back."""
        return tuple([line for line, _, _ in self.deeds])
