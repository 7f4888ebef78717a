"""What shows distances: the cycle of an endless one, and a paper of a row that a looker checks."""

from semirail.best import is_ordered
from semirail.errors import NoOrder
from semirail.folds import product_of
from semirail.rounds import by_rounds
from semirail.webs import is_path, need_state, need_web

_GROWING = ("count", "least", "most")
_SIGNED = ("least", "most")


def why_endless(ring, web, i, j):
    """None, or paths that show why a distance is "endless": to a state, from it to itself, and on."""
    need_web(ring, web)
    need_state(web, i)
    need_state(web, j)
    if ring.made()[0] not in _GROWING:
        raise NoOrder(None)
    kind = ring.kind()
    live = [number for number, step in enumerate(web[1]) if step[2] != kind.zero()]
    ways = [_ways_from(web, live, state) for state in range(web[0])]
    between = [number for number in live if _lies_between(ways, i, web[1][number], j)]
    told = _over_endless(web, ways, i, between, j)
    if told is not None:
        return told
    for state in range(web[0]):
        turn = _round_at(kind, web, between, state)
        if turn is not None:
            return ways[i][state], turn, ways[state][j]
    return None


def _ways_from(web, numbers, start):
    """For each state a path of few steps, of the told numbers alone, or None."""
    ways = [None] * web[0]
    ways[start] = ()
    reached = [start]
    for _ in range(web[0]):
        then = []
        for state in reached:
            for number in numbers:
                i, j, _ = web[1][number]
                if i == state and ways[j] is None:
                    ways[j] = ways[i] + (number,)
                    then.append(j)
        reached = then
    return ways


def _lies_between(ways, i, step, j):
    return ways[i][step[0]] is not None and ways[step[1]][j] is not None


def _over_endless(web, ways, i, between, j):
    """Paths of which the first ends with a step of "endless", or None."""
    for number in between:
        start, end, weight = web[1][number]
        if weight == "endless":
            return ways[i][start] + (number,), (), ways[end][j]
    return None


def _round_at(kind, web, between, state):
    """A path from a state to itself whose weight and that of the empty one don't sum to the latter, or None."""
    best = _best_ways(kind, web, between, state, web[0])
    return best[state][1] if best[state][1] != () else None


def _best_ways(kind, web, numbers, start, long):
    """For each state a path of at most so many steps that none betters, and its weight; zero and None of none."""
    best = [(kind.zero(), None) for _ in range(web[0])]
    best[start] = (kind.one(), ())
    for _ in range(long):
        then = list(best)
        for number in numbers:
            i, j, weight = web[1][number]
            further = kind.times(best[i][0], weight)
            if kind.plus(then[j][0], further) != then[j][0]:
                then[j] = (further, best[i][1] + (number,))
        best = then
    return best


def paper(ring, web, start):
    """A path to each state, or None, that show the row of distances; None where one is "endless"."""
    need_web(ring, web)
    need_state(web, start)
    if not is_ordered(ring):
        raise NoOrder(None)
    if ring.made()[0] in _SIGNED and "endless" in by_rounds(ring, web, start):
        return None
    numbers = list(range(len(web[1])))
    return [path for _, path in _best_ways(ring.kind(), web, numbers, start, web[0] - 1)]


def check(ring, web, start, row, paper):
    """Whether a paper shows that a row has the distances from a state."""
    need_web(ring, web)
    need_state(web, start)
    if not is_ordered(ring):
        raise NoOrder(None)
    if not isinstance(row, list) or len(row) != web[0] or not all([ring.good(weight) for weight in row]):
        return False
    if not isinstance(paper, list) or len(paper) != web[0]:
        return False
    kind = ring.kind()
    if not all([_is_shown(kind, web, start, state, row, paper) for state in range(web[0])]):
        return False
    return _is_at_rest(kind, web, start, row)


def _is_shown(kind, web, start, state, row, paper):
    """Whether the paper has a path to a state of the row's weight, or None for zero."""
    path = paper[state]
    if path is None:
        return row[state] == kind.zero()
    steps = web[1]
    if not isinstance(path, tuple) or not is_path(steps, path) or not _leads(steps, start, path, state):
        return False
    return product_of(kind, [steps[number][2] for number in path]) == row[state]


def _leads(steps, start, path, state):
    if path == ():
        return start == state
    return steps[path[0]][0] == start and steps[path[-1]][1] == state


def _is_at_rest(kind, web, start, row):
    """Whether neither the empty path nor a step more betters the row."""
    if kind.plus(kind.one(), row[start]) != row[start]:
        return False
    return all([kind.plus(kind.times(row[i], weight), row[j]) == row[j] for i, j, weight in web[1]])
