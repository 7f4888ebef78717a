"""How rings are made of tuples and read from texts."""

from semirail.errors import BadLine, BadRing, BadTable
from semirail.rings import Ring
from semirail.tables import first_broken
from semirail.words import is_whole, number_in, rows_of

_BARE = ("truth", "count", "least", "most", "narrow", "share")
_SIZES = {"lot": (1, 12), "rest": (2, 1000), "terms": (1, 4)}
_THINGS = (2, 6)
_PAIRS = 3


def ring_of(made):
    """The Ring that is made of a tuple."""
    if not _has_form(made, _PAIRS):
        raise BadRing("form")
    for sums, products in _tables(made):
        broken = first_broken(sums, products)
        if broken is not None:
            raise BadTable(broken[0], broken[1])
    return Ring(made)


def _has_form(made, deep):
    """Whether a thing has a ring's form, with pairs at most so deep."""
    if not isinstance(made, tuple) or len(made) == 0 or not isinstance(made[0], str):
        return False
    name = made[0]
    if name in _SIZES:
        least, most = _SIZES[name]
        return len(made) == 2 and is_whole(made[1], least, most)
    if len(made) == 3 and name == "table":
        return _are_tables(made[1], made[2])
    if len(made) == 3 and name == "pair":
        return deep > 0 and _has_form(made[1], deep - 1) and _has_form(made[2], deep - 1)
    return len(made) == 1 and name in _BARE


def _are_tables(sums, products):
    if not isinstance(sums, tuple) or not is_whole(len(sums), _THINGS[0], _THINGS[1]):
        return False
    return _is_table(sums, len(sums)) and _is_table(products, len(sums))


def _is_table(thing, size):
    if not isinstance(thing, tuple) or len(thing) != size:
        return False
    return all([_is_row(row, size) for row in thing])


def _is_row(thing, size):
    if not isinstance(thing, tuple) or len(thing) != size:
        return False
    return all([is_whole(place, 0, size - 1) for place in thing])


def _tables(made):
    """The tables in what has the form, from the left."""
    if made[0] == "table":
        return [(made[1], made[2])]
    if made[0] == "pair":
        return [*_tables(made[1]), *_tables(made[2])]
    return []


def ring_in(text):
    """The Ring whose text it is."""
    if not isinstance(text, str):
        raise BadLine(0)
    rows = rows_of(text)
    if len(rows) != 1 or rows[0] is None:
        raise BadLine(1)
    made, end = _made_in(rows[0], 0, _PAIRS)
    if end != len(rows[0]):
        raise BadLine(1)
    try:
        return ring_of(made)
    except BadRing:
        raise BadLine(1) from None


def _made_in(words, at, deep):
    """What the words from a place on tell, perhaps without a ring's form, and the place behind it."""
    if at >= len(words):
        return None, at
    name = words[at]
    if name in _SIZES and at + 1 < len(words):
        return (name, number_in(words[at + 1])), at + 2
    if name == "table":
        return _table_in(words, at + 1)
    if name == "pair" and deep > 0:
        left, middle = _made_in(words, at + 1, deep - 1)
        right, end = _made_in(words, middle, deep - 1)
        return (name, left, right), end
    return (name,), at + 1


def _table_in(words, at):
    size = number_in(words[at]) if at < len(words) else None
    if not is_whole(size, _THINGS[0], _THINGS[1]):
        return None, at
    start = at + 1
    numbers = [number_in(word) for word in words[start:start + 2 * size * size]]
    rows = [tuple(numbers[row * size:row * size + size]) for row in range(2 * size)]
    return ("table", tuple(rows[:size]), tuple(rows[size:])), start + len(numbers)
