"""What letters leave of expressions."""

from semirail.expressions import need_expression
from semirail.folds import total_of
from semirail.forest import Forest
from semirail.needs import need_letter, need_word
from semirail.parts import numbered
from semirail.resting import Rests


def _planted(ring, alphabet, expression):
    """The rests of a forest in which an expression is put, and its number."""
    need_expression(expression, ring=ring, alphabet=alphabet)
    forest = Forest(ring.kind())
    rests = Rests(forest)
    places = []
    for head, worth, left, right in numbered(expression):
        if head == "left":
            places.append(forest.summed(rests.by(worth, places[left])))
        elif head == "turned":
            places.append(forest.turned(places[left]))
        else:
            first = None if left is None else places[left]
            second = None if right is None else places[right]
            places.append(forest.put(head, worth, first, second))
    return forest, rests, places[-1]


def rest(expression, letter, *, ring, alphabet):
    """An expression of what a letter leaves."""
    forest, rests, number = _planted(ring, alphabet, expression)
    need_letter(alphabet, letter)
    return forest.told(forest.summed(rests.by(letter, number)))


def by_rests(expression, word="", *, ring, alphabet):
    """The weight of a word, letter by letter."""
    forest, rests, number = _planted(ring, alphabet, expression)
    need_word(alphabet, word)
    kind = ring.kind()
    weights = {number: kind.one()}
    for letter in word:
        weights = rests.behind(weights, letter)
    return total_of(kind, [kind.times(weight, forest.empty(place)) for place, weight in weights.items()])
