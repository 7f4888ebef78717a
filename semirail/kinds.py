"""What all kinds of rings share.

A kind reckons and refuses nothing: the weights that it is handed are looked at by the Ring ahead.
"""

from semirail.words import is_number, number_in


class Kind:
    """A kind of ring: its text, zero and one, and what most kinds tell alike."""

    def __init__(self, text, zero, one):
        self._text = text
        self._zero = zero
        self._one = one

    def text(self):
        """How the ring is written."""
        return self._text

    def zero(self):
        """The sum of none."""
        return self._zero

    def one(self):
        """The product of none."""
        return self._one

    def closed(self):
        """Whether every weight has a star, and endlessly many paths a sum."""
        return False

    def few(self):
        """Whether automata come to not endlessly many vectors."""
        return False

    def beyond(self, before, after):
        """What is still to be added where sums went on from BEFORE to AFTER though nothing new came.

        That is "endless" of a sum that grows on and on, and zero of one that stays.
        """
        return self._zero

    def written(self, a):
        """The word that writes a weight."""
        return str(a)


class Counted(Kind):
    """A kind whose weights are written as whole numbers, or as one of a few words."""

    def __init__(self, text, zero, one, others):
        Kind.__init__(self, text, zero, one)
        self._others = others

    def good(self, thing):
        """Whether a thing is a weight."""
        if isinstance(thing, str):
            return thing in self._others
        return is_number(thing) and self.fits(thing)

    def fits(self, number):
        """Whether a whole number is a weight."""
        return number >= 0

    def worth(self, word):
        """The weight that a word writes, or None."""
        if word in self._others:
            return word
        number = number_in(word)
        return number if self.good(number) else None
