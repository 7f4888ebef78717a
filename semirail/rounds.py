"""Distances in a web by rounds of sums from one state."""

from semirail.webs import need_state, need_web


def by_rounds(ring, web, start):
    """A list of the distances from a state.

    In each round the sums are those over paths of one step more. Who has as many steps as there are
    states has been somewhere twice: a sum that this round still changes goes on for ever, and so do
    those to which it leads.
    """
    need_web(ring, web)
    need_state(web, start)
    states = web[0]
    kind = ring.kind()
    row = _begun(kind, web, start)
    for _ in range(states - 1):
        row = _next_round(kind, web, start, row)
    after = _next_round(kind, web, start, row)
    beyond = [kind.beyond(weight, later) for weight, later in zip(row, after)]
    for _ in range(states):
        row = [kind.plus(weight, more) for weight, more in zip(after, beyond)]
        after = _next_round(kind, web, start, row)
    return row


def _begun(kind, web, start):
    """The sums over paths of no step."""
    return [kind.one() if state == start else kind.zero() for state in range(web[0])]


def _next_round(kind, web, start, row):
    """The sums over the paths that are one of the row's with a step more, and over the empty one."""
    told = _begun(kind, web, start)
    for i, j, weight in web[1]:
        told[j] = kind.plus(told[j], kind.times(row[i], weight))
    return told
