"""Sums over all rows of silent steps, endlessly many perhaps.

The states are taken out one by one, as in a web; the order keeps down what stands in for them, so that
many states with few silent steps are no great work.
"""


def plan_of(kind, steps):
    """How to sum over the silent steps (I, J, WEIGHT): for each state taken out what it leaves behind."""
    inward, onward = _ways(kind, steps)
    plan = []
    while onward:
        state = _cheapest(inward, onward, list(onward))
        plan.append(_taken_out(kind, inward, onward, state))
    return plan


def way_past(kind, steps, first, last):
    """The sum over all rows of steps (I, J, WEIGHT) from the first state to the last one, two of their own."""
    inward, onward = _ways(kind, steps)
    between = [state for state in onward if state not in (first, last)]
    while between:
        state = _cheapest(inward, onward, between)
        between.remove(state)
        _taken_out(kind, inward, onward, state)
    return onward[first].get(last, kind.zero()) if first in onward else kind.zero()


def _ways(kind, steps):
    """The sums of the steps to each state, by those from which they come, and from each, by where they lead."""
    inward = {}
    onward = {}
    for i, j, weight in steps:
        for state in (i, j):
            inward.setdefault(state, {})
            onward.setdefault(state, {})
        _add_way(kind, inward, onward, i, j, weight)
    return inward, onward


def _add_way(kind, inward, onward, i, j, weight):
    if weight != kind.zero():
        told = kind.plus(onward[i].get(j, kind.zero()), weight)
        onward[i][j] = told
        inward[j][i] = told


def _cheapest(inward, onward, states):
    """The first one of some states through which the fewest ways lead."""
    return min(states, key=lambda state: (len(inward[state]) * len(onward[state]), state))


def _taken_out(kind, inward, onward, state):
    """Lead all ways through a state past it; tell the state, its turns, and its ways in and on."""
    before = inward.pop(state)
    after = onward.pop(state)
    turns = kind.star(after.pop(state, kind.zero()))
    before.pop(state, None)
    for i in before:
        del onward[i][state]
    for j in after:
        del inward[j][state]
    after = {j: kind.times(turns, weight) for j, weight in after.items()}
    for i, way in before.items():
        for j, weight in after.items():
            _add_way(kind, inward, onward, i, j, kind.times(way, weight))
    return state, turns, list(before.items()), list(after.items())


def settled(kind, plan, row):
    """What a row of weights, one for each state, becomes by all rows of silent steps, also by none."""
    told = list(row)
    for state, _, _, after in plan:
        for j, weight in after:
            told[j] = kind.plus(told[j], kind.times(told[state], weight))
    for state, turns, before, _ in reversed(plan):
        for i, weight in before:
            told[state] = kind.plus(told[state], kind.times(told[i], weight))
        told[state] = kind.times(told[state], turns)
    return told
