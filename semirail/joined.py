"""The kinds pair and terms: weights that are made of parts."""

from semirail.kinds import Kind
from semirail.words import is_number, number_in


class Pair(Kind):
    """Pairs of weights of two kinds, reckoned part by part."""

    def __init__(self, left, right):
        text = f"pair {left.text()} {right.text()}"
        Kind.__init__(self, text, (left.zero(), right.zero()), (left.one(), right.one()))
        self._left = left
        self._right = right

    def closed(self):
        """Whether every weight has a star, and endlessly many paths a sum."""
        return self._left.closed() and self._right.closed()

    def few(self):
        """Whether automata come to not endlessly many vectors."""
        return self._left.few() and self._right.few()

    def good(self, thing):
        """Whether a thing is a weight."""
        if not isinstance(thing, tuple) or len(thing) != 2:
            return False
        return self._left.good(thing[0]) and self._right.good(thing[1])

    def plus(self, a, b):
        """The sum."""
        return self._left.plus(a[0], b[0]), self._right.plus(a[1], b[1])

    def times(self, a, b):
        """The product."""
        return self._left.times(a[0], b[0]), self._right.times(a[1], b[1])

    def star(self, a):
        """The sum of all powers, or None: a part's own star counts where both kinds are closed."""
        if not self.closed():
            return self.resting(a)
        return self._left.star(a[0]), self._right.star(a[1])

    def resting(self, a):
        """The sum at which those of more and more powers stay, or None."""
        left = self._left.resting(a[0])
        right = self._right.resting(a[1])
        return None if left is None or right is None else (left, right)

    def beyond(self, before, after):
        """What is still to be added where sums went on though nothing new came."""
        return self._left.beyond(before[0], after[0]), self._right.beyond(before[1], after[1])

    def written(self, a):
        """The word that writes a weight."""
        return f"<{self._left.written(a[0])},{self._right.written(a[1])}>"

    def worth(self, word):
        """The weight that a word writes, or None."""
        at = _comma(word)
        if at is None or not word.startswith("<") or not word.endswith(">"):
            return None
        left = self._left.worth(word[1:at])
        right = self._right.worth(word[at + 1:-1])
        return None if left is None or right is None else (left, right)


def _comma(word):
    """The place of the first comma that stands in one pair of brackets alone, or None."""
    deep = 0
    for at, sign in enumerate(word):
        if sign == "<":
            deep += 1
        elif sign == ">":
            deep -= 1
        elif sign == "," and deep == 1:
            return at
    return None


class Terms(Kind):
    """Sums of products of unknowns, counted."""

    def __init__(self, unknowns):
        Kind.__init__(self, f"terms {unknowns}", (), (((0,) * unknowns, 1),))
        self._unknowns = unknowns

    def good(self, thing):
        """Whether a thing is a weight."""
        if not isinstance(thing, tuple) or not all([self._is_part(part) for part in thing]):
            return False
        return all([part[0] < follower[0] for part, follower in zip(thing, thing[1:])])

    def _is_part(self, thing):
        if not isinstance(thing, tuple) or len(thing) != 2:
            return False
        powers, count = thing
        if not isinstance(powers, tuple) or len(powers) != self._unknowns:
            return False
        return all([is_number(number) and number >= 0 for number in powers]) and is_number(count) and count >= 1

    def plus(self, a, b):
        """The sum."""
        return _gathered([*a, *b])

    def times(self, a, b):
        """The product."""
        return _gathered([(_summed(p, q), many * often) for p, many in a for q, often in b])

    def star(self, a):
        """The sum of all powers, or None."""
        return self.resting(a)

    def resting(self, a):
        """The sum at which those of more and more powers stay: they grow but for zero."""
        return self.one() if a == () else None

    def written(self, a):
        """The word that writes a weight."""
        parts = [".".join([str(number) for number in powers]) + f":{count}" for powers, count in a]
        return "+".join(parts) if parts else "0"

    def worth(self, word):
        """The weight that a word writes, or None."""
        if word == "0":
            return ()
        weight = tuple([_part_in(part) for part in word.split("+")])
        return weight if self.good(weight) else None


def _gathered(parts):
    """The rising tuple of parts, with those of the same powers put together."""
    counts = {}
    for powers, count in parts:
        counts[powers] = counts.get(powers, 0) + count
    return tuple(sorted(counts.items()))


def _summed(powers, others):
    return tuple([power + other for power, other in zip(powers, others)])


def _part_in(text):
    """The powers and the count that a part of a word writes, or what is no part."""
    pieces = text.split(":")
    if len(pieces) != 2:
        return None
    return tuple([number_in(piece) for piece in pieces[0].split(".")]), number_in(pieces[1])
