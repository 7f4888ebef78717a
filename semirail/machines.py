"""Machines: in each state a letter leads to one, and an end tells the weight."""

from semirail.automata import need_automaton
from semirail.bare import by_letters, ended, moved
from semirail.errors import BadMachine, BadWord, NotFew, TooMany
from semirail.limits import MOST
from semirail.moving import least_of, state_behind
from semirail.needs import need_both, need_most
from semirail.silent import plan_of, settled
from semirail.words import is_whole, is_word


class Machine:
    """A machine of a ring and an alphabet: ends, and for each state the next one by each letter."""

    def __init__(self, ring, alphabet, ends, moves):
        need_both(ring, alphabet)
        if not _are_ends(ring, ends) or not _are_moves(len(ends), len(alphabet), moves):
            raise BadMachine("not the ends and moves of a machine")
        self._ring = ring
        self._alphabet = alphabet
        self._ends = ends
        self._moves = moves

    def ring(self):
        """The Ring of the weights."""
        return self._ring

    def alphabet(self):
        """The letters of the words."""
        return self._alphabet

    def ends(self):
        """The weight of each state."""
        return self._ends

    def moves(self):
        """For each state the next one by each letter."""
        return self._moves

    def run(self, word=""):
        """The weight of a word, of any length."""
        if not is_word(self._alphabet, word, long=None):
            raise BadWord("not a word of the alphabet")
        return self._ends[state_behind(self._alphabet, self._moves, 0, word)]

    def least(self):
        """The least machine that gives all words the same weights."""
        ends, moves = least_of(self._ends, self._moves)
        return Machine(self._ring, self._alphabet, ends, moves)

    def __len__(self):
        return len(self._ends)

    def __eq__(self, other):
        if not isinstance(other, Machine) or not self._ring == other._ring:
            return False
        return (self._alphabet, self._ends, self._moves) == (other._alphabet, other._ends, other._moves)

    def __str__(self):
        return "\n".join(self._lines())

    def _lines(self):
        rows = [" ".join([self._ring.written(end), *[str(state) for state in row]])
                for end, row in zip(self._ends, self._moves)]
        return [f"states {len(self._ends)}", *rows]


def _are_ends(ring, thing):
    return isinstance(thing, tuple) and len(thing) > 0 and all([ring.good(weight) for weight in thing])


def _are_moves(states, letters, thing):
    return isinstance(thing, tuple) and len(thing) == states and all([_is_row(states, letters, row) for row in thing])


def _is_row(states, letters, thing):
    if not isinstance(thing, tuple) or len(thing) != letters:
        return False
    return all([is_whole(state, 0, states - 1) for state in thing])


def need_machine(thing):
    """Refuse what is no Machine."""
    if not isinstance(thing, Machine):
        raise BadMachine("not a machine")


def machine_of(automaton, *, ring, alphabet, most=MOST):
    """The machine whose states are an automaton's vectors, in the order of the first words that have them."""
    need_automaton(automaton, ring=ring, alphabet=alphabet)
    need_most(most)
    if not ring.is_few():
        raise NotFew("there may be endlessly many vectors")
    kind = ring.kind()
    steps = by_letters(automaton)
    plan = plan_of(kind, steps.get("", []))
    vectors = [tuple(settled(kind, plan, automaton[1]))]
    places = {vectors[0]: 0}
    moves = []
    while len(moves) < len(vectors):
        if len(vectors) > most:
            raise TooMany(most)
        onward = []
        for letter in alphabet:
            vector = tuple(settled(kind, plan, moved(kind, steps.get(letter, []), vectors[len(moves)])))
            if vector not in places:
                places[vector] = len(vectors)
                vectors.append(vector)
            onward.append(places[vector])
        moves.append(tuple(onward))
    return Machine(ring, alphabet, tuple([ended(kind, automaton, vector) for vector in vectors]), tuple(moves))
