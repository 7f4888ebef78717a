"""Operations on automata: words read from behind, dealt out, cut, renamed, spelled, and weights led."""

from semirail.automata import need_automaton
from semirail.errors import BadWord
from semirail.leadings import led_all, led_ring
from semirail.needs import need_both, need_letter, need_word
from semirail.pairing import shuffled_of
from semirail.turning import left_of, renamed_of, spelled_of, turned_of
from semirail.words import is_word


def turned(one, *, ring, alphabet):
    """The weight of each word read from behind."""
    need_automaton(one, ring=ring, alphabet=alphabet)
    return turned_of(ring.kind(), one)


def shuffled(one, other, *, ring, alphabet):
    """The sum over all ways to deal a word's places to two."""
    need_automaton(one, ring=ring, alphabet=alphabet)
    need_automaton(other, ring=ring, alphabet=alphabet)
    return shuffled_of(ring.kind(), one, other)


def left(letter, one, *, ring, alphabet):
    """The weight of a letter and each word."""
    need_both(ring, alphabet)
    need_letter(alphabet, letter)
    need_automaton(one, ring=ring, alphabet=alphabet)
    return left_of(ring.kind(), letter, one)


def renamed(one, letters, *, ring, alphabet):
    """The sum over all words that come to one when each letter is put for its own."""
    need_automaton(one, ring=ring, alphabet=alphabet)
    need_word(alphabet, letters)
    if len(letters) != len(alphabet):
        raise BadWord("not a letter for each of the alphabet")
    return renamed_of(ring.kind(), one, dict(zip(alphabet, letters)))


def spelled(one, words, *, ring, alphabet):
    """The weight of each word when each of its letters is spelled by a word."""
    need_automaton(one, ring=ring, alphabet=alphabet)
    if not isinstance(words, tuple) or len(words) != len(alphabet):
        raise BadWord("not a tuple of a word for each letter")
    if not all([is_word(alphabet, word) for word in words]):
        raise BadWord("not words of the alphabet")
    return spelled_of(ring.kind(), one, dict(zip(alphabet, words)))


def led_automaton(one, how, *, ring, alphabet):
    """The led weight of each word, an automaton of the ring to which the leading leads."""
    need_automaton(one, ring=ring, alphabet=alphabet)
    goal = led_ring(ring, how)
    states, starts, ends, steps = one
    weights = led_all(goal, how, [step[3] for step in steps])
    told = [(i, letter, j, weight) for (i, letter, j, _), weight in zip(steps, weights)]
    return states, tuple(led_all(goal, how, starts)), tuple(led_all(goal, how, ends)), tuple(told)
