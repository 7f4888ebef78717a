"""Rings, weights and odd things that several tests share."""

import itertools

from semirail.errors import Refused, Unknown, Unreckoned
from semirail import errors
from semirail.ringof import ring_of

OR_AND = ("table", ((0, 1), (1, 1)), ((0, 0), (0, 1)))
THREE = (
    "table",
    ((0, 1, 2), (1, 2, 0), (2, 0, 1)),
    ((0, 0, 0), (0, 1, 2), (0, 2, 1)),
)
# 0 to 5 with the greater as the sum; 1 is the greatest, so it is one, and 0, 2, 3, 4, 5, 1 is the order.
PLACES = (0, 5, 1, 2, 3, 4)
SIX = (
    "table",
    tuple(tuple(max(a, b, key=lambda x: PLACES[x]) for b in range(6)) for a in range(6)),
    tuple(tuple(min(a, b, key=lambda x: PLACES[x]) for b in range(6)) for a in range(6)),
)

BARE = [("truth",), ("count",), ("least",), ("most",), ("narrow",), ("share",)]
SIZED = [("lot", 1), ("lot", 3), ("lot", 12), ("rest", 2), ("rest", 6), ("rest", 1000)]
TABLES = [OR_AND, THREE, SIX]
TERMS = [("terms", 1), ("terms", 2), ("terms", 4)]
PAIRS = [
    ("pair", ("truth",), ("count",)),
    ("pair", ("least",), ("most",)),
    ("pair", ("rest", 6), ("share",)),
    ("pair", ("lot", 3), ("narrow",)),
    ("pair", THREE, ("terms", 2)),
    ("pair", ("count",), ("rest", 2)),
    ("pair", ("pair", ("truth",), OR_AND), ("pair", ("lot", 1), ("rest", 2))),
    ("pair", ("pair", ("pair", ("count",), ("least",)), ("truth",)), ("share",)),
    ("pair", ("truth",), ("pair", ("narrow",), ("pair", ("most",), SIX))),
    ("pair", ("share",), ("pair", ("narrow",), ("pair", ("most",), ("count",)))),
]
MADE = BARE + SIZED + TABLES + TERMS + PAIRS

CLOSED_NAMES = {"truth", "count", "least", "most", "narrow", "share", "lot"}
FEW_NAMES = {"truth", "narrow", "lot", "rest", "table"}

BASIC = {
    "truth": [False, True],
    "count": [0, 1, 2, 7, 10 ** 30, "endless"],
    "least": [0, 1, -1, 5, -10 ** 30, "none", "endless"],
    "most": [0, 1, -1, 5, 10 ** 30, "none", "endless"],
    "narrow": [0, 1, 4, 10 ** 30, "endless"],
    "share": [(0, 1), (1, 1), (1, 2), (2, 3), (999, 1000)],
}


def weights_of(made):
    """Some weights of a ring, zero and one among them."""
    name = made[0]
    if name in BASIC:
        return list(BASIC[name])
    if name == "lot":
        return sorted({0, 1, 2 ** made[1] - 1, 2 ** made[1] // 2})
    if name == "rest":
        return sorted({0, 1, made[1] - 1, made[1] // 2})
    if name == "table":
        return list(range(len(made[1])))
    if name == "terms":
        nought = (0,) * made[1]
        first = (1,) + nought[1:]
        last = nought[:-1] + (2,)
        return [(), ((nought, 1),), ((first, 3),), ((nought, 2), (last, 1)), tuple(sorted([(first, 1), (last, 10)]))]
    return list(itertools.product(weights_of(made[1]), weights_of(made[2])))[:40]


def closed(made):
    """Whether point 3 tells that a ring is closed."""
    if made[0] == "pair":
        return closed(made[1]) and closed(made[2])
    return made[0] in CLOSED_NAMES


def few(made):
    """Whether point 15 tells that a ring is few."""
    if made[0] == "pair":
        return few(made[1]) and few(made[2])
    return made[0] in FEW_NAMES


def rings():
    """A Ring of each of the tuples."""
    return [ring_of(made) for made in MADE]


class Stranger:
    """A thing of a kind that nothing here knows."""


ODD = [
    None, True, False, 0, 1, -1, 10 ** 40, "", "a", "ab", "endless", "none", "truth", "0", "A", b"", b"a",
    [], [0], ["a"], (), (0,), (0, 1), ("a",), ("truth",), {}, {"a": 1}, {1}, frozenset(), Stranger(), Stranger, len,
    [[]], ((),), (None, None), ("truth", None), ([], []), "a\n", " ", "\n",
]

FAMILIES = {
    Refused: (ValueError, {
        "BadRing": ("what",), "BadTable": ("rule", "things"), "BadWeight": ("why",), "BadLeading": ("why",),
        "BadNumber": ("why",), "BadWord": ("why",), "BadWeb": ("why",), "BadPath": ("why",),
        "BadAutomaton": ("why",), "BadExpression": ("why",), "BadTransducer": ("why",), "BadMachine": ("why",),
        "BadAnswer": ("why",), "BadName": ("why",), "BadDeed": ("why",), "BadLine": ("line",)}),
    Unreckoned: (ArithmeticError, {
        "NoStar": ("why",), "NoOrder": ("step",), "NotClosed": ("why",), "NotFew": ("why",), "TooMany": ("most",)}),
    Unknown: (LookupError, {
        "NoName": ("name",), "Taken": ("name",), "InUse": ("users",), "Round": ("circle",), "TooDeep": ("name",),
        "Nothing": ("why",)}),
}


def error_rows():
    """For each error its class, its family, Python's own above that, and its fields."""
    return [(getattr(errors, name), family, above, fields)
            for family, (above, names) in FAMILIES.items() for name, fields in names.items()]


def refusal(call, *args, **more):
    """The class of the error that a call raises and its fields, or None and what it tells."""
    try:
        told = call(*args, **more)
    except (Refused, Unreckoned, Unknown) as error:
        return error.__class__.__name__, tuple(vars(error).values())
    return None, told


class Numbers:
    """Numbers that look like chance, the same ones each time."""

    def __init__(self, seed):
        self._state = seed

    def below(self, bound):
        """One from 0 to just below a bound."""
        self._state = (self._state * 6364136223846793005 + 1442695040888963407) % 2 ** 64
        return (self._state >> 33) % bound

    def one_of(self, things):
        """One of some things."""
        return things[self.below(len(things))]
