"""Leadings: how the weights of a ring become those of another."""

from semirail.errors import BadLeading, BadRing, BadTable
from semirail.folds import many_of, power_of, product_of, total_of
from semirail.ringof import ring_of
from semirail.rings import need_ring
from semirail.words import is_whole


def _goal_of_unknowns(made, how):
    if made[0] != "terms" or len(how) != 3:
        return None
    try:
        goal = ring_of(how[1])
    except (BadRing, BadTable):
        return None
    weights = how[2]
    if not isinstance(weights, tuple) or len(weights) != made[1]:
        return None
    return how[1] if all([goal.good(weight) for weight in weights]) else None


def _goal_of_some(made, how):
    return ("truth",) if made[0] == "count" and len(how) == 1 else None


def _goal_of_turned(made, how):
    if len(how) != 1:
        return None
    if made[0] == "least":
        return ("most",)
    return ("least",) if made[0] == "most" else None


def _goal_of_bit(made, how):
    fits = made[0] == "lot" and len(how) == 2 and is_whole(how[1], 0, made[1] - 1)
    return ("truth",) if fits else None


def _goal_of_first(made, how):
    return made[1] if made[0] == "pair" and len(how) == 1 else None


def _goal_of_second(made, how):
    return made[2] if made[0] == "pair" and len(how) == 1 else None


def _goal_of_rest(made, how):
    fits = made[0] == "rest" and len(how) == 2 and is_whole(how[1], 2, made[1])
    return ("rest", how[1]) if fits and made[1] % how[1] == 0 else None


def _by_unknowns(kind, how, weight):
    parts = []
    for powers, count in weight:
        factors = [power_of(kind, unknown, power) for unknown, power in zip(how[2], powers)]
        parts.append(many_of(kind, product_of(kind, factors), count))
    return total_of(kind, parts)


def _by_some(kind, how, weight):
    return weight != 0


def _by_turned(kind, how, weight):
    return weight if isinstance(weight, str) else -weight


def _by_bit(kind, how, weight):
    return (weight >> how[1]) & 1 == 1


def _by_first(kind, how, weight):
    return weight[0]


def _by_second(kind, how, weight):
    return weight[1]


def _by_rest(kind, how, weight):
    return weight % how[1]


_GOALS = {
    "unknowns": _goal_of_unknowns,
    "some": _goal_of_some,
    "turned": _goal_of_turned,
    "bit": _goal_of_bit,
    "first": _goal_of_first,
    "second": _goal_of_second,
    "rest": _goal_of_rest,
}

_WAYS = {
    "unknowns": _by_unknowns,
    "some": _by_some,
    "turned": _by_turned,
    "bit": _by_bit,
    "first": _by_first,
    "second": _by_second,
    "rest": _by_rest,
}


def led_ring(ring, how):
    """The Ring to which a leading leads."""
    need_ring(ring)
    if not isinstance(how, tuple) or len(how) == 0 or not isinstance(how[0], str):
        raise BadLeading("not a leading")
    if how[0] not in _GOALS:
        raise BadLeading("no such leading")
    goal = _GOALS[how[0]]
    made = goal(ring.made(), how)
    if made is None:
        raise BadLeading("not a leading from this ring")
    return ring_of(made)


def led_all(goal, how, weights):
    """The weights of the goal to which a leading takes some weights, all of which have been looked at."""
    way = _WAYS[how[0]]
    return [way(goal.kind(), how, weight) for weight in weights]


def led(ring, how, weight):
    """The weight to which a leading takes a weight."""
    goal = led_ring(ring, how)
    ring.need(weight)
    return led_all(goal, how, [weight])[0]
