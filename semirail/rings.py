"""Rings: commutative semirings, each of which looks at what it is handed."""

from semirail.errors import BadNumber, BadRing, BadWeight, NoStar
from semirail.folds import many_of, power_of, product_of, total_of
from semirail.kindof import kind_of
from semirail.limits import LONG
from semirail.words import is_whole


class Ring:
    """A ring; it is made by ring_of, which looks at the tuple ahead."""

    def __init__(self, made):
        self._made = made
        self._kind = kind_of(made)

    def kind(self):
        """The kind that reckons for this ring and refuses nothing."""
        return self._kind

    def made(self):
        """The tuple of which the ring is made."""
        return self._made

    def zero(self):
        """The sum of none."""
        return self._kind.zero()

    def one(self):
        """The product of none."""
        return self._kind.one()

    def is_closed(self):
        """Whether every weight has a star, and endlessly many paths a sum."""
        return self._kind.closed()

    def is_few(self):
        """Whether automata over the ring become machines."""
        return self._kind.few()

    def good(self, thing):
        """Whether a thing is a weight of the ring."""
        return self._kind.good(thing)

    def need(self, thing):
        """Refuse what is no weight of the ring."""
        if not self._kind.good(thing):
            raise BadWeight("not a weight of the ring")

    def plus(self, a, b):
        """The sum of two weights."""
        self.need(a)
        self.need(b)
        return self._kind.plus(a, b)

    def times(self, a, b):
        """The product of two weights."""
        self.need(a)
        self.need(b)
        return self._kind.times(a, b)

    def star(self, a):
        """The sum of all powers of a weight."""
        self.need(a)
        told = self._kind.star(a)
        if told is None:
            raise NoStar("the sums of powers don't stay")
        return told

    def many(self, a, count=2):
        """The sum of a weight, so often."""
        self.need(a)
        _need_count(count)
        return many_of(self._kind, a, count)

    def power(self, a, count=2):
        """The product of a weight, so often."""
        self.need(a)
        _need_count(count)
        return power_of(self._kind, a, count)

    def total(self, weights):
        """The sum of a list of weights."""
        self._need_list(weights)
        return total_of(self._kind, weights)

    def product(self, weights):
        """The product of a list of weights."""
        self._need_list(weights)
        return product_of(self._kind, weights)

    def _need_list(self, weights):
        if not isinstance(weights, list):
            raise BadWeight("not a list of weights")
        for weight in weights:
            self.need(weight)

    def written(self, a):
        """The word that writes a weight."""
        self.need(a)
        return self._kind.written(a)

    def worth(self, word):
        """The weight that a word writes; None of anything else."""
        return self._kind.worth(word) if isinstance(word, str) else None

    def __eq__(self, other):
        return isinstance(other, Ring) and self._made == other._made

    def __str__(self):
        return str(self._kind.text())

    def __repr__(self):
        return f"Ring({self._kind.text()})"


def _need_count(count):
    if not is_whole(count, 0, LONG):
        raise BadNumber("not a whole number from 0 to LONG")


def need_ring(thing):
    """Refuse what is no Ring."""
    if not isinstance(thing, Ring):
        raise BadRing("ring")
