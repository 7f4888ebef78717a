"""What several functions refuse: no Ring, no alphabet, no word, no letter, no number of the most."""

from semirail.errors import BadNumber, BadWord
from semirail.rings import need_ring
from semirail.words import is_alphabet, is_letter, is_whole, is_word

_MILLION = 1000000


def need_both(ring, alphabet):
    """Refuse what is no Ring, then what is no alphabet."""
    need_ring(ring)
    if not is_alphabet(alphabet):
        raise BadWord("not an alphabet")


def need_word(alphabet, word):
    """Refuse what is no word of at most LONG letters."""
    if not is_word(alphabet, word):
        raise BadWord("not a word of the alphabet")


def need_letter(alphabet, letter):
    """Refuse what is no letter of the alphabet."""
    if not is_letter(letter) or letter not in alphabet:
        raise BadWord("not a letter of the alphabet")


def need_most(most):
    """Refuse what is no number of the most that is wanted."""
    if not is_whole(most, 0, _MILLION):
        raise BadNumber("not a whole number from 0 to a million")
