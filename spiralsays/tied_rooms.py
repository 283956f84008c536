"""The turns that heights and ties leave, and an E for each height at one of them."""

from spiralsays.room import End, Squares, side_of_place
from spiralsays.simple import simplest_in


class TiedTurns:
    """All turns at which the limits of each height and the links leave an E for each; at hand is the place of one."""

    def __init__(self, limits, links, at_hand):
        self.limits = limits
        self.links = links
        self.at_hand = at_hand

    def side_of(self, top, bottom):
        rooms = rooms_at(self.limits, self.links, top, bottom)
        if not any([room.is_empty() for room in rooms]):
            return 0
        return side_of_place(self.at_hand, top, bottom)


def rooms_at(limits, links, top, bottom):
    """For each height the Squares at the turn top over bottom that the other heights leave, too."""
    rooms = [Squares(line, top, bottom) for line in limits]
    for one, upper in enumerate(rooms):
        for other, lower in enumerate(rooms):
            link = links[one][other]
            if link is not None and one != other:
                upper.rise_to(shifted(lower.low, link))
                if upper.high is not None:
                    lower.sink_to(shifted(upper.high, link))
    return rooms


def shifted(end, link):
    """The end of a height, told of another one; behind an above tie it does not belong to the stretch."""
    return End(end.top, end.bottom, end.is_in and not link.is_above)


def squares_at(limits, links, turn):
    """The simplest E of each height, of those that are left at a turn."""
    rooms = rooms_at(limits, links, turn.top, turn.bottom)
    numbers = list(range(len(limits)))
    # A height is told behind those to which it leads: what they are leaves room for it.
    led = [len([other for other in numbers if links[one][other] is not None]) for one in numbers]
    squares = {}
    for _, one in sorted([(many, one) for one, many in enumerate(led)]):
        for other in numbers:
            if other not in squares:
                continue
            end = End(squares[other].top, squares[other].bottom, True)
            if links[one][other] is not None:
                rooms[one].rise_to(shifted(end, links[one][other]))
            if links[other][one] is not None:
                rooms[one].sink_to(end)
        squares[one] = simplest_in(rooms[one])
    return [squares[one] for one in numbers]
