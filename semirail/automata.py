"""Automata: what is one, the weights that they give to words, and their paths."""

from semirail.bare import by_letters, has_silent, still_of, trim_of, vector_of, weight_of
from semirail.errors import BadAutomaton, TooMany
from semirail.limits import MOST
from semirail.needs import need_both, need_most, need_word
from semirail.words import is_number, is_whole


def need_automaton(thing, *, ring, alphabet):
    """Refuse what is no automaton of a ring and an alphabet."""
    need_both(ring, alphabet)
    if not _is_automaton(ring, alphabet, thing):
        raise BadAutomaton("not an automaton of this ring and alphabet")


def _is_automaton(ring, alphabet, thing):
    return has_form(ring, thing, 3, lambda states, step: _is_step(ring, alphabet, states, step))


def has_form(ring, thing, rising, is_step):
    """Whether a thing has states, starts, ends, and steps that rise by so many of their parts, no two alike."""
    if not isinstance(thing, tuple) or len(thing) != 4:
        return False
    states, starts, ends, steps = thing
    if not is_number(states) or not isinstance(steps, tuple):
        return False
    if not _are_weights(ring, states, starts) or not _are_weights(ring, states, ends):
        return False
    if not all([is_step(states, step) for step in steps]):
        return False
    return all([step[:rising] < follower[:rising] for step, follower in zip(steps, steps[1:])])


def _are_weights(ring, states, thing):
    return isinstance(thing, tuple) and len(thing) == states and all([ring.good(weight) for weight in thing])


def _is_step(ring, alphabet, states, step):
    if not isinstance(step, tuple) or len(step) != 4:
        return False
    i, letter, j, weight = step
    if not is_whole(i, 0, states - 1) or not is_whole(j, 0, states - 1):
        return False
    if not isinstance(letter, str) or not (ring.is_closed() if letter == "" else len(letter) == 1):
        return False
    return letter in alphabet and ring.good(weight)


def weight(automaton, word="", *, ring, alphabet):
    """The weight of a word."""
    need_automaton(automaton, ring=ring, alphabet=alphabet)
    need_word(alphabet, word)
    return weight_of(ring.kind(), automaton, word)


def vector(automaton, word="", *, ring, alphabet):
    """For each state the sum over all paths of a word to it, without its end."""
    need_automaton(automaton, ring=ring, alphabet=alphabet)
    need_word(alphabet, word)
    return vector_of(ring.kind(), automaton, word)


def paths(automaton, word="", *, ring, alphabet, most=MOST):
    """All rows of steps that make a word, as a rising list of tuples of their numbers."""
    need_automaton(automaton, ring=ring, alphabet=alphabet)
    if has_silent(automaton):
        raise BadAutomaton("it has silent steps")
    need_word(alphabet, word)
    need_most(most)
    onward = _ways_onward(automaton, word)
    if sum(onward[0]) > most:
        raise TooMany(most)
    if word == "":
        return [(state,) for state in range(automaton[0])]
    return _rows(automaton[3], word, onward)


def _ways_onward(automaton, word):
    """For each place in a word, for each state, how many rows of steps make the rest of the word."""
    steps = by_letters(automaton)
    told = [[1] * automaton[0]]
    for letter in reversed(word):
        counts = [0] * automaton[0]
        for i, j, _ in steps.get(letter, []):
            counts[i] += told[-1][j]
        told.append(counts)
    return list(reversed(told))


def _rows(steps, word, onward):
    """The rows of steps, each begun only where the rest of the word can be made."""
    rows = [(number,) for number, step in enumerate(steps) if step[1] == word[0] and onward[1][step[2]] > 0]
    for place in range(1, len(word)):
        ways = {}
        for number, step in enumerate(steps):
            if step[1] == word[place] and onward[place + 1][step[2]] > 0:
                ways.setdefault(step[0], []).append(number)
        rows = [row + (number,) for row in rows for number in ways[steps[row[-1]][2]]]
    return rows


def still(automaton, *, ring, alphabet):
    """An automaton of the same weights without silent steps."""
    need_automaton(automaton, ring=ring, alphabet=alphabet)
    return still_of(ring.kind(), automaton)


def trim(automaton, *, ring, alphabet):
    """The automaton of just those states that lie on rows of steps between a start and an end."""
    need_automaton(automaton, ring=ring, alphabet=alphabet)
    return trim_of(ring.kind(), automaton)
