"""Automata of expressions that are numbered rows."""

from semirail.bare import still_of, trim_of
from semirail.errors import NoStar
from semirail.forest import Forest
from semirail.joining import added_of, empty_weight, followed_of, repeated_of, scaled_of
from semirail.pairing import met_of, shuffled_of
from semirail.parts import below, is_plain_head
from semirail.resting import automaton_behind
from semirail.turning import left_of, turned_of


def _by_scaled(kind, worth, parts):
    return scaled_of(kind, worth, parts[0])


def _by_added(kind, worth, parts):
    return added_of(parts[0], parts[1])


def _by_followed(kind, worth, parts):
    return followed_of(kind, parts[0], parts[1])


def _by_repeated(kind, worth, parts):
    quiet = still_of(kind, parts[0])
    turns = kind.star(empty_weight(kind, quiet))
    if turns is None:
        raise NoStar("the empty word's weight has no star")
    return repeated_of(kind, quiet, turns)


def _by_met(kind, worth, parts):
    return met_of(kind, parts[0], parts[1])


def _by_turned(kind, worth, parts):
    return turned_of(kind, parts[0])


def _by_shuffled(kind, worth, parts):
    return shuffled_of(kind, parts[0], parts[1])


def _by_left(kind, worth, parts):
    return left_of(kind, worth, parts[0])


_WAYS = {
    "scaled": _by_scaled,
    "added": _by_added,
    "followed": _by_followed,
    "repeated": _by_repeated,
    "met": _by_met,
    "turned": _by_turned,
    "shuffled": _by_shuffled,
    "left": _by_left,
}


def shape_of(kind, rows, number):
    """The automaton of a row, with no silent step; NoStar where a star in it isn't there.

    Those of plain rows are made at once, all others of those that stand in them.
    """
    forest = Forest(kind)
    plain = {None: None}
    made = {}
    for place in below(rows, number):
        head, worth, left, right = rows[place]
        inner = [part for part in (left, right) if part is not None]
        if is_plain_head(head) and left in plain and right in plain:
            plain[place] = forest.put(head, worth, plain[left], plain[right])
        else:
            for part in inner:
                if part not in made:
                    made[part] = trim_of(kind, automaton_behind(forest, plain[part]))
            way = _WAYS[head]
            made[place] = way(kind, worth, [made[part] for part in inner])
    return made[number] if number in made else trim_of(kind, automaton_behind(forest, plain[number]))
