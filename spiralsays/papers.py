"""Papers: an answer, and what shows it."""


def fixed(value):
    """The value with each list in it as a tuple."""
    if isinstance(value, (list, tuple)):
        return tuple([fixed(item) for item in value])
    return value


class Paper:
    """A word, and parts that are kept as they were passed, but for lists."""

    def __init__(self, word, *parts):
        self.word = word
        self.parts = fixed(parts)

    def __bool__(self):
        return True

    def __eq__(self, other):
        return is_same_paper(self, other)


class Denial(Paper):
    """A paper that says no: it is false."""

    def __init__(self, word, *parts):
        super().__init__(word, *parts)

    def __bool__(self):
        return False

    def __eq__(self, other):
        return is_same_paper(self, other)


def is_same_paper(one, other):
    if not isinstance(other, Paper) or one.__class__.__name__ != other.__class__.__name__:
        return False
    return one.word == other.word and one.parts == other.parts
