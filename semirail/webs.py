"""Webs of closed rings, their paths, and their distances by taking out state by state."""

from semirail.errors import BadNumber, BadPath, BadWeb, NotClosed
from semirail.folds import product_of
from semirail.rings import need_ring
from semirail.words import is_whole

_STATES = 12
_STEPS = 80


def need_web(ring, web):
    """Refuse what is no web of a closed ring."""
    need_ring(ring)
    if not ring.is_closed():
        raise NotClosed("endlessly many paths have no sum in this ring")
    if not _is_web(ring, web):
        raise BadWeb("not a web of this ring")


def _is_web(ring, web):
    if not isinstance(web, tuple) or len(web) != 2:
        return False
    states, steps = web
    if not is_whole(states, 1, _STATES) or not isinstance(steps, tuple) or len(steps) > _STEPS:
        return False
    return all([_is_step(ring, states, step) for step in steps])


def _is_step(ring, states, step):
    if not isinstance(step, tuple) or len(step) != 3:
        return False
    i, j, weight = step
    return is_whole(i, 0, states - 1) and is_whole(j, 0, states - 1) and ring.good(weight)


def need_state(web, thing):
    """Refuse what is no state of a web."""
    if not is_whole(thing, 0, web[0] - 1):
        raise BadNumber("not a state of this web")


def is_path(steps, path):
    """Whether a thing is a list or tuple of numbers of steps, each from where the one ahead led."""
    if not isinstance(path, (list, tuple)):
        return False
    if not all([is_whole(number, 0, len(steps) - 1) for number in path]):
        return False
    return all([steps[number][1] == steps[follower][0] for number, follower in zip(path, path[1:])])


def path_weight(ring, web, path):
    """The product of the weights of a path's steps."""
    need_web(ring, web)
    steps = web[1]
    if not is_path(steps, path) or len(path) == 0:
        raise BadPath("not a path of this web, or the empty one")
    return product_of(ring.kind(), [steps[number][2] for number in path])


def by_states(ring, web):
    """For each state a list of the distances to each."""
    need_web(ring, web)
    kind = ring.kind()
    table = _single_steps(kind, web)
    for middle in range(web[0]):
        table = _with_ways_over(kind, table, middle)
    for state in range(web[0]):
        table[state][state] = kind.plus(kind.one(), table[state][state])
    return table


def _single_steps(kind, web):
    """The sums of the steps from each state to each."""
    states, steps = web
    table = [[kind.zero()] * states for _ in range(states)]
    for i, j, weight in steps:
        table[i][j] = kind.plus(table[i][j], weight)
    return table


def _with_ways_over(kind, table, middle):
    """The table with the paths added that go over one more state, however often."""
    turns = kind.star(table[middle][middle])
    onward = [kind.times(turns, weight) for weight in table[middle]]
    return [_with_ways(kind, row, row[middle], onward) for row in table]


def _with_ways(kind, row, inward, onward):
    return [kind.plus(weight, kind.times(inward, way)) for weight, way in zip(row, onward)]
