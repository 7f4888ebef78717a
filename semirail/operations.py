"""Operations on automata: sums, products, and words joined."""

from semirail.automata import need_automaton
from semirail.bare import still_of
from semirail.joining import added_of, empty_weight, followed_of, repeated_of, scaled_of
from semirail.needs import need_both
from semirail.pairing import met_of


def _need_automata(ring, alphabet, one, other):
    need_automaton(one, ring=ring, alphabet=alphabet)
    need_automaton(other, ring=ring, alphabet=alphabet)


def added(one, other, *, ring, alphabet):
    """The sum of both."""
    _need_automata(ring, alphabet, one, other)
    return added_of(one, other)


def scaled(factor, one, *, ring, alphabet):
    """The product with a weight."""
    need_both(ring, alphabet)
    ring.need(factor)
    need_automaton(one, ring=ring, alphabet=alphabet)
    return scaled_of(ring.kind(), factor, one)


def met(one, other, *, ring, alphabet):
    """The product of both."""
    _need_automata(ring, alphabet, one, other)
    return met_of(ring.kind(), one, other)


def followed(one, other, *, ring, alphabet):
    """The sum over all cuts of a word into one of the first and one of the second."""
    _need_automata(ring, alphabet, one, other)
    return followed_of(ring.kind(), one, other)


def repeated(one, *, ring, alphabet):
    """The sum over all cuts of a word into pieces, none empty, with the star of the empty word's weight."""
    need_automaton(one, ring=ring, alphabet=alphabet)
    quiet = still_of(ring.kind(), one)
    turns = ring.star(empty_weight(ring.kind(), quiet))
    return repeated_of(ring.kind(), quiet, turns)
