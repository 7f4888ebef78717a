"""Expressions as numbered rows, one for all that are alike, each with its weight of the empty word.

A Forest has only parts whose rests need no word at hand: "turned" and "left" are put into the others.
It sums, multiplies and repeats its expressions as a kind does its weights.
"""

from semirail.errors import NoStar
from semirail.parts import below

_ZERO = 0
_ONE = 1


class Forest:
    """Expressions over a kind of ring, told by numbers."""

    def __init__(self, kind):
        self._kind = kind
        self._rows = []
        self._places = {}
        self._empties = []
        self.put("zero", None, None, None)
        self.put("one", None, None, None)

    def kind(self):
        """The kind of the weights."""
        return self._kind

    def row(self, number):
        """The row (HEAD, WORTH, LEFT, RIGHT) of an expression."""
        return self._rows[number]

    def empty(self, number):
        """The weight that an expression gives to the empty word."""
        return self._empties[number]

    def within(self, number):
        """The rising list of the numbers of an expression and of all in it."""
        return below(self._rows, number)

    def put(self, head, worth, left, right):
        """The number of an expression as it is told."""
        row = (head, worth, left, right)
        if row not in self._places:
            empty = self._empty_of(head, worth, left, right)
            self._places[row] = len(self._rows)
            self._rows.append(row)
            self._empties.append(empty)
        return self._places[row]

    def _empty_of(self, head, worth, left, right):
        kind = self._kind
        if head in ("zero", "letter"):
            return kind.zero()
        if head == "one":
            return kind.one()
        if head == "scaled":
            return kind.times(worth, self._empties[left])
        if head == "added":
            return kind.plus(self._empties[left], self._empties[right])
        if head != "repeated":
            return kind.times(self._empties[left], self._empties[right])
        turns = kind.star(self._empties[left])
        if turns is None:
            raise NoStar("the empty word's weight has no star")
        return turns

    def zero(self):
        """The expression of zero."""
        return _ZERO

    def one(self):
        """The expression of one."""
        return _ONE

    def letter(self, sign):
        """The expression of a letter."""
        return self.put("letter", sign, None, None)

    def scaled(self, weight, number):
        """A weight times an expression."""
        if number == _ZERO or weight == self._kind.zero():
            return _ZERO
        return number if weight == self._kind.one() else self.put("scaled", weight, number, None)

    def plus(self, left, right):
        """The sum of two expressions."""
        if left == _ZERO:
            return right
        return left if right == _ZERO else self.put("added", None, left, right)

    def times(self, left, right):
        """One expression followed by another one."""
        if left == _ZERO or right == _ZERO:
            return _ZERO
        head, worth, inner, _ = self._rows[left]
        if left == _ONE or (head == "scaled" and inner == _ONE):
            return right if left == _ONE else self.scaled(worth, right)
        head, worth, inner, _ = self._rows[right]
        if right == _ONE or (head == "scaled" and inner == _ONE):
            return left if right == _ONE else self.scaled(worth, left)
        return self.put("followed", None, left, right)

    def star(self, number):
        """An expression repeated."""
        return _ONE if number == _ZERO else self.put("repeated", None, number, None)

    def met(self, left, right):
        """The product of two expressions."""
        return _ZERO if _ZERO in (left, right) else self.put("met", None, left, right)

    def shuffled(self, left, right):
        """Two expressions shuffled."""
        if left == _ONE:
            return right
        if _ZERO in (left, right):
            return _ZERO
        return left if right == _ONE else self.put("shuffled", None, left, right)

    def summed(self, weights):
        """The sum of expressions times weights: a dict by their numbers."""
        row = [self.scaled(weight, number) for number, weight in sorted(weights.items())]
        while len(row) > 1:
            # Halves keep the sum from standing deep.
            pairs = [self.plus(left, right) for left, right in zip(row[::2], row[1::2])]
            row = pairs + row[len(row) - len(row) % 2:]
        return row[0] if row else _ZERO

    def turned(self, number):
        """The expression of all words read from behind."""
        places = {None: None}
        for place in self.within(number):
            head, worth, left, right = self._rows[place]
            if head == "followed":
                left, right = right, left
            places[place] = self.put(head, worth, places[left], places[right])
        return places[number]

    def told(self, number):
        """The expression as a tuple."""
        told = {}
        for place in self.within(number):
            head, worth, left, right = self._rows[place]
            front = (head,) if worth is None else (head, worth)
            told[place] = front + tuple([told[inner] for inner in (left, right) if inner is not None])
        return told[number]
