"""Distances in a web from the best state first, where no step betters."""

from semirail.errors import NoOrder
from semirail.webs import need_state, need_web

_ORDERED = ("truth", "least", "most", "narrow", "share")


def is_ordered(ring):
    """Whether each sum in a ring is one of its parts, and so the better one."""
    return ring.made()[0] in _ORDERED


def by_best(ring, web, start):
    """A list of the distances from a state."""
    need_web(ring, web)
    need_state(web, start)
    _need_no_bettering(ring, web)
    kind = ring.kind()
    row = [kind.zero() for _ in range(web[0])]
    row[start] = kind.one()
    waiting = list(range(web[0]))
    while waiting:
        # What goes on from the others is no better than they are, so the best one's weight stays.
        state = _best_of(kind, row, waiting)
        waiting.remove(state)
        for i, j, weight in web[1]:
            if i == state:
                row[j] = kind.plus(row[j], kind.times(row[i], weight))
    return row


def _need_no_bettering(ring, web):
    if not is_ordered(ring):
        raise NoOrder(None)
    kind = ring.kind()
    one = kind.one()
    for number, step in enumerate(web[1]):
        if kind.plus(one, step[2]) != one:
            raise NoOrder(number)


def _best_of(kind, row, states):
    """The first of the states whose weight is the sum of all of theirs."""
    best = states[0]
    for state in states:
        if kind.plus(row[best], row[state]) != row[best]:
            best = state
    return best
