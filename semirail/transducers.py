"""Transducers: what is one, the weights of pairs of words, and what they make of each other and of automata."""

from semirail.automata import has_form, need_automaton
from semirail.errors import BadTransducer, NotClosed, TooMany
from semirail.limits import MOST
from semirail.needs import need_both, need_most, need_word
from semirail.sending import asked_back_of, composed_of, pair_weight_of, sent_of, written_of
from semirail.words import is_letter, is_whole, is_word, shortlex


def need_transducer(thing, *, ring, alphabet):
    """Refuse what is no transducer of a ring and an alphabet."""
    need_both(ring, alphabet)
    if not _is_transducer(ring, alphabet, thing):
        raise BadTransducer("not a transducer of this ring and alphabet")


def _is_transducer(ring, alphabet, thing):
    return has_form(ring, thing, 4, lambda states, step: _is_step(ring, alphabet, states, step))


def _is_step(ring, alphabet, states, step):
    if not isinstance(step, tuple) or len(step) != 5:
        return False
    i, letter, word, j, weight = step
    if not is_whole(i, 0, states - 1) or not is_whole(j, 0, states - 1):
        return False
    if not is_letter(letter) or letter not in alphabet:
        return False
    return is_word(alphabet, word) and ring.good(weight)


def pair_weight(transducer, x, y, *, ring, alphabet):
    """The weight of a pair of words: the first one is read, the second one written."""
    need_transducer(transducer, ring=ring, alphabet=alphabet)
    need_word(alphabet, x)
    need_word(alphabet, y)
    return pair_weight_of(ring.kind(), transducer, x, y)


def written_by(transducer, x, *, ring, alphabet, most=MOST):
    """A list of all words that are written for a word, shortlex, each with its weight."""
    need_transducer(transducer, ring=ring, alphabet=alphabet)
    need_word(alphabet, x)
    need_most(most)
    told = written_of(ring.kind(), transducer, x, most)
    if told is None:
        raise TooMany(most)
    return [(word, told[word]) for word in shortlex(list(told))]


def composed(one, other, *, ring, alphabet):
    """The transducer that gives two words the sum over all words between them."""
    need_transducer(one, ring=ring, alphabet=alphabet)
    need_transducer(other, ring=ring, alphabet=alphabet)
    return composed_of(ring.kind(), one, other)


def sent(automaton, transducer, *, ring, alphabet):
    """The automaton that gives each word the sum over all words for which it is written."""
    need_automaton(automaton, ring=ring, alphabet=alphabet)
    need_transducer(transducer, ring=ring, alphabet=alphabet)
    if not ring.is_closed() and any([step[2] == "" for step in transducer[3]]):
        raise NotClosed("endlessly many words may write the same one")
    return sent_of(ring.kind(), automaton, transducer)


def asked_back(transducer, automaton, *, ring, alphabet):
    """The automaton that gives each word the sum over all words that are written for it."""
    need_transducer(transducer, ring=ring, alphabet=alphabet)
    need_automaton(automaton, ring=ring, alphabet=alphabet)
    return asked_back_of(ring.kind(), transducer, automaton)
