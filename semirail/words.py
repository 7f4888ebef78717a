"""Letters, alphabets, words and names, and how texts are cut into words."""

from semirail.errors import BadNumber, BadWord
from semirail.limits import LONG

_LETTERS = 6
_SIGNS = 8
_WORDS = 2000
_FIGURES = 4000


def is_number(thing):
    """Whether a thing is a whole number; True and False are none."""
    return isinstance(thing, int) and not isinstance(thing, bool)


def is_whole(thing, least, most):
    """Whether a thing is a whole number from the least to the most."""
    return is_number(thing) and least <= thing <= most


def is_letter(thing):
    """Whether a thing is one of a to z."""
    return isinstance(thing, str) and len(thing) == 1 and "a" <= thing <= "z"


def is_alphabet(thing):
    """Whether a thing is a text of 1 to 6 letters, rising, no two alike."""
    if not isinstance(thing, str) or not 1 <= len(thing) <= _LETTERS:
        return False
    if not all([is_letter(sign) for sign in thing]):
        return False
    return all([sign < follower for sign, follower in zip(thing, thing[1:])])


def is_word(alphabet, thing, *, long=LONG):
    """Whether a thing is a text of at most so many letters of the alphabet; of any length by None."""
    if not isinstance(thing, str) or (long is not None and len(thing) > long):
        return False
    return all([sign in alphabet for sign in thing])


def is_name(thing):
    """Whether a thing is a text of 1 to 8 letters."""
    if not isinstance(thing, str) or not 1 <= len(thing) <= _SIGNS:
        return False
    return all([is_letter(sign) for sign in thing])


def shortlex(words):
    """The words of a list, the shorter ahead, of one length as texts do."""
    return sorted(words, key=lambda word: (len(word), word))


def words_to(alphabet, length):
    """All words of at most so many letters, shortlex."""
    if not is_alphabet(alphabet):
        raise BadWord("not an alphabet")
    if not is_whole(length, 0, LONG):
        raise BadNumber("not a length of words")
    words = [""]
    longest = [""]
    for _ in range(length):
        longest = [word + letter for word in longest for letter in alphabet]
        words.extend(longest)
        if len(words) > _WORDS:
            raise BadNumber("too many words")
    return words


def cuts(word):
    """All pairs of a first part and the rest, the shorter first part ahead."""
    return [(word[:at], word[at:]) for at in range(len(word) + 1)]


def number_in(word):
    """The whole number that a text writes; None of anything else."""
    if not isinstance(word, str):
        return None
    figures = word.removeprefix("-")
    if not 1 <= len(figures) <= _FIGURES:
        return None
    if figures[0] == "0" and word != "0":
        return None
    if not all(["0" <= sign <= "9" for sign in figures]):
        return None
    return int(word)


def rows_of(text):
    """A list of words for each line; None of a line whose blanks don't fit."""
    return [_row(line) for line in text.split("\n")]


def _row(line):
    words = line.split(" ")
    # An empty word is all that an empty line and a blank too many leave.
    return None if "" in words else words
