"""Whether any value is what the functions of stem_nets tell."""

from spiralsays.checks import is_list
from spiralsays.nets import Net
from spiralsays.pairs import are_neighbours
from spiralsays.stems import need_stem
from spiralsays.steps import Step


def shows_nets(stem, value):
    need_stem(stem, "stem")
    if not is_list(value) or not all([isinstance(net, Net) and net.holds(stem) for net in value]):
        return False
    if len(value) == 1:
        return not is_upright(stem, value[0])
    # Two unlike nets of one stem: then a product is 0, and there are no more.
    return len(value) == 2 and value[0] != value[1]


def is_upright(stem, net):
    """Whether two steps of a net are at a right angle."""
    low, high, third = net.steps
    products = [stem.product(low, high), stem.product(low, third), stem.product(high, third)]
    return any([product.sign == 0 for product in products])


def shows_nearest(stem, value):
    need_stem(stem, "stem")
    if not is_list(value) or len(value) != 2 or not all([isinstance(step, Step) for step in value]):
        return False
    one, other = value
    if not are_neighbours(one, other):
        return False
    square = stem.square(one)
    return not stem.square(other).is_below(square) and not square.is_below(abs(stem.product(one, other) * 2))
