"""The way back from automata to expressions."""

from semirail.automata import need_automaton
from semirail.bare import still_of, trim_of
from semirail.forest import Forest
from semirail.silent import way_past

_FIRST = -1
_LAST = -2


def expression_of(automaton, *, ring, alphabet):
    """A plain expression of the same weights as an automaton.

    The states are taken out one by one between a first and a last one of their own; as no step is
    silent, no word that leads back to a state is empty, and each star is there.
    """
    need_automaton(automaton, ring=ring, alphabet=alphabet)
    kind = ring.kind()
    states, starts, ends, steps = trim_of(kind, still_of(kind, automaton))
    forest = Forest(kind)
    ways = [(i, j, forest.scaled(weight, forest.letter(letter))) for i, letter, j, weight in steps]
    ways.extend([(_FIRST, state, forest.scaled(starts[state], forest.one())) for state in range(states)])
    ways.extend([(state, _LAST, forest.scaled(ends[state], forest.one())) for state in range(states)])
    return forest.told(way_past(forest, ways, _FIRST, _LAST))
