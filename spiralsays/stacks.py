"""Told ones of several heights and ties, as many as are put in."""


class Stack:
    """For each height a tuple of told ones; a tuple of ties."""

    def __init__(self, told, ties):
        self.told = tuple(told)
        self.ties = tuple(ties)

    def put_in(self, height, more):
        """The Stack with more told ones behind those of a height."""
        line = self.told[height] + tuple(more)
        return Stack(self.told[:height] + (line,) + self.told[height + 1:], self.ties)

    def put_in_ties(self, more):
        return Stack(self.told, self.ties + tuple(more))


def stack_of(heights):
    return Stack([book.told for book in heights.books], heights.ties)
