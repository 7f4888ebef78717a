"""What letters leave of the expressions of a Forest.

What a letter leaves is told as a sum of expressions times weights, put together where they are alike: of a
plain expression there are no more of them than it has letters, however many letters come.
"""

from semirail.bare import add_to, steps_of


class Rests:
    """What letters leave of the expressions of a forest, each reckoned once."""

    def __init__(self, forest):
        self._forest = forest
        self._kind = forest.kind()
        self._known = {}

    def by(self, letter, number):
        """What a letter leaves of an expression: a dict of weights by the numbers of expressions."""
        for place in self._asked(letter, number):
            told = self._by_head(letter, place)
            self._known[place, letter] = {inner: weight for inner, weight in told.items()
                                          if inner != self._forest.zero() and weight != self._kind.zero()}
        return {inner: weight for inner, weight in self._known[number, letter].items()}

    def _asked(self, letter, number):
        """The rising list of those of which must be known what the letter leaves."""
        found = {}
        waiting = [number]
        while waiting:
            place = waiting.pop()
            if place not in found and (place, letter) not in self._known:
                found[place] = True
                waiting.extend(self._begins(place))
        return sorted(list(found))

    def _begins(self, number):
        """The expressions in one in which its words may begin."""
        head, _, left, right = self._forest.row(number)
        if head == "followed" and self._forest.empty(left) == self._kind.zero():
            return [left]
        return [place for place in (left, right) if place is not None]

    def _by_head(self, letter, number):
        head, worth, left, right = self._forest.row(number)
        one = self._kind.one()
        if head == "letter":
            return {self._forest.one(): one} if worth == letter else {}
        if head == "scaled":
            return self._sum([(worth, self._known[left, letter])])
        if head == "added":
            return self._sum([(one, self._known[left, letter]), (one, self._known[right, letter])])
        if head == "followed":
            return self._by_followed(letter, left, right)
        if head == "repeated":
            return self._sum([(self._forest.empty(number), self._onto(self._known[left, letter], number))])
        if head == "met":
            return {self._forest.met(self._summed(letter, left), self._summed(letter, right)): one}
        if head == "shuffled":
            first = self._forest.shuffled(self._summed(letter, left), right)
            second = self._forest.shuffled(left, self._summed(letter, right))
            return self._sum([(one, {first: one}), (one, {second: one})])
        return {}

    def _by_followed(self, letter, left, right):
        ahead = (self._kind.one(), self._onto(self._known[left, letter], right))
        empty = self._forest.empty(left)
        if empty == self._kind.zero():
            return self._sum([ahead])
        return self._sum([ahead, (empty, self._known[right, letter])])

    def _onto(self, weights, number):
        """What a letter leaves, each followed by an expression."""
        told = {}
        for place, weight in weights.items():
            add_to(self._kind, told, self._forest.times(place, number), weight)
        return told

    def _sum(self, parts):
        """The sum of what letters leave times weights."""
        told = {}
        for factor, weights in parts:
            for place, weight in weights.items():
                add_to(self._kind, told, place, self._kind.times(factor, weight))
        return told

    def _summed(self, letter, number):
        return self._forest.summed(self._known[number, letter])

    def behind(self, weights, letter):
        """What a letter leaves of a sum of expressions times weights."""
        return self._sum([(weight, self.by(letter, number)) for number, weight in weights.items()])


def automaton_behind(forest, number):
    """The automaton of a plain expression: its states are what letters leave of it."""
    kind = forest.kind()
    rests = Rests(forest)
    rows = [forest.row(place) for place in forest.within(number)]
    letters = [row[1] for row in rows if row[0] == "letter"]
    numbers = [number]
    places = {number: 0}
    sums = {}
    done = 0
    while done < len(numbers):
        for letter in letters:
            onward = rests.by(letter, numbers[done])
            for place, weight in onward.items():
                if place not in places:
                    places[place] = len(numbers)
                    numbers.append(place)
                sums[done, letter, places[place]] = weight
        done += 1
    starts = (kind.one(),) + tuple([kind.zero() for _ in numbers[1:]])
    return len(numbers), starts, tuple([forest.empty(place) for place in numbers]), steps_of(kind, sums)
