"""The kinds truth, share and lot: one and any weight sum to one."""

from math import gcd

from semirail.kinds import Kind
from semirail.words import is_number, number_in


class Topped(Kind):
    """A kind in which the sums of a weight's powers stay at one."""

    def closed(self):
        """Whether every weight has a star, and endlessly many paths a sum."""
        return True

    def star(self, a):
        """The sum of all powers."""
        return self.one()

    def resting(self, a):
        """The sum at which those of more and more powers stay."""
        return self.one()


class Truth(Topped):
    """False and True: or, and."""

    def __init__(self):
        Topped.__init__(self, "truth", False, True)

    def few(self):
        """Whether automata come to not endlessly many vectors."""
        return True

    def good(self, thing):
        """Whether a thing is a weight."""
        return isinstance(thing, bool)

    def plus(self, a, b):
        """The sum."""
        return a or b

    def times(self, a, b):
        """The product."""
        return a and b

    def written(self, a):
        """The word that writes a weight."""
        return "yes" if a else "no"

    def worth(self, word):
        """The weight that a word writes, or None."""
        if word == "yes":
            return True
        return False if word == "no" else None


class Share(Topped):
    """Fractions from 0 to 1 in lowest terms: the greater, the product."""

    def __init__(self):
        Topped.__init__(self, "share", (0, 1), (1, 1))

    def good(self, thing):
        """Whether a thing is a weight."""
        if not isinstance(thing, tuple) or len(thing) != 2:
            return False
        top, bottom = thing
        if not is_number(top) or not is_number(bottom):
            return False
        return 0 <= top <= bottom and gcd(top, bottom) == 1

    def plus(self, a, b):
        """The sum."""
        return a if a[0] * b[1] >= b[0] * a[1] else b

    def times(self, a, b):
        """The product."""
        top = a[0] * b[0]
        bottom = a[1] * b[1]
        shared = gcd(top, bottom)
        return top // shared, bottom // shared

    def written(self, a):
        """The word that writes a weight."""
        return f"{a[0]}/{a[1]}"

    def worth(self, word):
        """The weight that a word writes, or None."""
        weight = tuple([number_in(part) for part in word.split("/")])
        return weight if self.good(weight) else None


class Lot(Topped):
    """Sets of so many things, as the bits of whole numbers: either, both."""

    def __init__(self, size):
        Topped.__init__(self, f"lot {size}", 0, (1 << size) - 1)
        self._size = size

    def few(self):
        """Whether automata come to not endlessly many vectors."""
        return True

    def good(self, thing):
        """Whether a thing is a weight."""
        return is_number(thing) and 0 <= thing <= self.one()

    def plus(self, a, b):
        """The sum."""
        return a | b

    def times(self, a, b):
        """The product."""
        return a & b

    def written(self, a):
        """The word that writes a weight."""
        return "".join([str((a >> thing) & 1) for thing in range(self._size)])

    def worth(self, word):
        """The weight that a word writes, or None."""
        if len(word) != self._size or not all([sign in "01" for sign in word]):
            return None
        return sum([1 << thing for thing, sign in enumerate(word) if sign == "1"])
