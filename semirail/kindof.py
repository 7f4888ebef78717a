"""Which kind a tuple tells of which a ring is made."""

from semirail.endless import Bounded, Count, Narrow
from semirail.finite import Rest, Table
from semirail.joined import Pair, Terms
from semirail.topped import Lot, Share, Truth


def kind_of(made):
    """The kind of ring that a tuple tells, whose form and tables have been looked at."""
    name = made[0]
    if name == "pair":
        return Pair(kind_of(made[1]), kind_of(made[2]))
    if name == "table":
        return Table(made[1], made[2])
    if len(made) == 2:
        return _sized_kind(name, made[1])
    return _bare_kind(name)


def _sized_kind(name, size):
    if name == "lot":
        return Lot(size)
    if name == "rest":
        return Rest(size)
    return Terms(size)


def _bare_kind(name):
    if name == "truth":
        return Truth()
    if name == "count":
        return Count()
    if name == "least":
        return Bounded("least", 1)
    if name == "most":
        return Bounded("most", -1)
    if name == "narrow":
        return Narrow()
    return Share()
