"""The places of the letters of a plain expression."""

from semirail.bare import add_to, steps_of
from semirail.errors import NoStar


class Spots:
    """The places of letters, and the weights with which one follows another.

    Of each part is told the weight of the empty word, and for the places at which its words begin and end
    with which weights.
    """

    def __init__(self, kind):
        self._kind = kind
        self._letters = []
        self._onward = {}

    def of_part(self, part, inner):
        """What is told of a part, by what is told of those in it."""
        kind = self._kind
        head = part[0]
        if head == "letter":
            self._letters.append(part[1])
            spot = {len(self._letters): kind.one()}
            return kind.zero(), spot, spot
        if head == "scaled":
            empty, firsts, lasts = inner[0]
            return kind.times(part[1], empty), self._times(part[1], firsts), lasts
        if head == "added":
            return self._of_added(inner[0], inner[1])
        if head == "followed":
            return self._of_followed(inner[0], inner[1])
        if head == "repeated":
            return self._of_repeated(inner[0])
        return kind.zero() if head == "zero" else kind.one(), {}, {}

    def _of_added(self, one, other):
        return self._kind.plus(one[0], other[0]), self._sum(one[1], other[1]), self._sum(one[2], other[2])

    def _of_followed(self, one, other):
        self._lead(one[2], other[1])
        firsts = self._sum(one[1], self._times(one[0], other[1]))
        lasts = self._sum(self._times(other[0], one[2]), other[2])
        return self._kind.times(one[0], other[0]), firsts, lasts

    def _of_repeated(self, one):
        turns = self._kind.star(one[0])
        if turns is None:
            raise NoStar("the empty word's weight has no star")
        firsts = self._times(turns, one[1])
        self._lead(one[2], firsts)
        return turns, firsts, self._times(turns, one[2])

    def _times(self, factor, weights):
        return {spot: self._kind.times(factor, weight) for spot, weight in weights.items()}

    def _sum(self, weights, others):
        """The sum of the weights of places of two parts, which share none."""
        told = {spot: weight for spot, weight in weights.items()}
        told.update(others)
        return told

    def _lead(self, lasts, firsts):
        """Let the places at which words end lead to those at which others begin."""
        for spot, weight in lasts.items():
            for then, further in firsts.items():
                key = (spot, self._letters[then - 1], then)
                add_to(self._kind, self._onward, key, self._kind.times(weight, further))

    def automaton(self, told):
        """The automaton of the whole, of which this is told."""
        zero = self._kind.zero()
        empty, firsts, lasts = told
        sums = {key: weight for key, weight in self._onward.items()}
        for spot, weight in firsts.items():
            sums[0, self._letters[spot - 1], spot] = weight
        spots = range(1, len(self._letters) + 1)
        starts = (self._kind.one(),) + tuple([zero for _ in spots])
        ends = (empty,) + tuple([lasts.get(spot, zero) for spot in spots])
        return len(starts), starts, ends, self._with_all(steps_of(self._kind, sums))

    def _with_all(self, steps):
        """The steps, and one of zero to each place to which none leads: each state tells its letter."""
        reached = {step[2]: True for step in steps}
        lone = [(0, letter, at + 1, self._kind.zero()) for at, letter in enumerate(self._letters)
                if at + 1 not in reached]
        return tuple(sorted([*steps, *lone]))
