"""All the errors of the package, each with its fields."""


class SpiralError(ValueError):
    """The base of all errors of the package."""


class BadRatio(SpiralError):
    def __init__(self, part):
        self.part = part


class BadStep(SpiralError):
    def __init__(self, part):
        self.part = part


class BadTable(SpiralError):
    def __init__(self, part):
        self.part = part


class BadStem(SpiralError):
    def __init__(self, part):
        self.part = part


class BadRow(SpiralError):
    def __init__(self, part):
        self.part = part


class BadTold(SpiralError):
    def __init__(self, part):
        self.part = part


class BadBook(SpiralError):
    def __init__(self, part):
        self.part = part


class BadSaying(SpiralError):
    def __init__(self, part):
        self.part = part


class BadNet(SpiralError):
    def __init__(self, part):
        self.part = part


class BadRoad(SpiralError):
    def __init__(self, part):
        self.part = part


class BadWindow(SpiralError):
    def __init__(self, part):
        self.part = part


class BadCounted(SpiralError):
    def __init__(self, part):
        self.part = part


class BadTie(SpiralError):
    def __init__(self, part):
        self.part = part


class BadHeights(SpiralError):
    def __init__(self, part):
        self.part = part


class BadNumber(SpiralError):
    def __init__(self, part):
        self.part = part


class BadPaper(SpiralError):
    def __init__(self, part):
        self.part = part


class BadDesk(SpiralError):
    def __init__(self, part):
        self.part = part


class Missing(SpiralError):
    """A value that is none here; only the errors below it are raised."""

    def __init__(self, name):
        self.name = name


class NoName(Missing):
    def __init__(self, name):
        super().__init__(name)


class NoTold(SpiralError):
    def __init__(self, number):
        self.number = number


class NoHeight(SpiralError):
    def __init__(self, number):
        self.number = number


class Round(SpiralError):
    """The round, where a step with studs is due."""

    def __init__(self, part):
        self.part = part


class NotNeighbours(SpiralError):
    def __init__(self, one, other):
        self.one = one
        self.other = other


class Common(SpiralError):
    """A divisor above 1, where none may be."""

    def __init__(self, divisor):
        self.divisor = divisor


class Unlike(SpiralError):
    def __init__(self, what):
        self.what = what


class Impossible(SpiralError):
    """Asked of what cannot be, with the paper that shows it."""

    def __init__(self, paper):
        self.paper = paper


class NoDeed(SpiralError):
    """Nothing is left that could be taken back."""


class TooMany(SpiralError):
    def __init__(self, what, most):
        self.what = what
        self.most = most


class BadText(SpiralError):
    """The first word that cannot stand; line is 0 where there is one alone."""

    def __init__(self, line, word):
        self.line = line
        self.word = word


class BadLine(SpiralError):
    """A line of a desk, and the error raised there."""

    def __init__(self, line, error):
        self.line = line
        self.error = error
