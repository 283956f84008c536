"""Whether any value is what sheets_alike may return."""

from spiralsays.carried import carried_stem
from spiralsays.check_stems import shows_nearest
from spiralsays.rolled import Unalike, ratios_of
from spiralsays.stems import need_stem
from spiralsays.tables import Table


def shows_alike(one, other, value):
    need_stem(one, "one")
    need_stem(other, "other")
    if isinstance(value, Table):
        return carried_stem(one, value) == other
    if not isinstance(value, Unalike):
        return False
    if not shows_nearest(one, value.one) or not shows_nearest(other, value.other):
        return False
    return ratios_of(one, value.one) != ratios_of(other, value.other)
