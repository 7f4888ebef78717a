"""Expressions that look like chance, and their weights written out, that several tests share."""

from tests.automata import cuts_into_pieces, summed_dealings
from tests.samples import refusal, weights_of

ONES, TWOS = ["repeated", "scaled", "turned", "left"], ["added", "followed", "met", "shuffled"]
PLAIN_HEADS = {"zero", "one", "letter", "scaled", "added", "followed", "repeated"}
OTHERS = {"met", "turned", "shuffled", "left"}
OF_ONE, OF_TWO = {"scaled", "repeated", "turned", "left"}, {"added", "followed", "met", "shuffled"}


def inner(part):
    """The expressions straight in one."""
    if part[0] in OF_TWO:
        return [part[1], part[2]]
    return [part[-1]] if part[0] in OF_ONE else []


def size(expression):
    """How many parts an expression has, and how deep it is."""
    many, deep, waiting = 0, 0, [(expression, 1)]
    while waiting:
        part, at = waiting.pop()
        many, deep = many + 1, max(deep, at)
        waiting.extend((within, at + 1) for within in inner(part))
    return many, deep


def parts(expression):
    """All parts of an expression."""
    told, waiting = [], [expression]
    while waiting:
        part = waiting.pop()
        told.append(part)
        waiting.extend(inner(part))
    return told


def heads(expression):
    """The first words of all parts."""
    return [part[0] for part in parts(expression)]


def random_expression(numbers, made, alphabet, parts, words=tuple(ONES + TWOS), weights=None):
    """An expression of about so many parts, of some first words."""
    weights = weights_of(made) if weights is None else weights
    if parts <= 1:
        turn = numbers.below(6)
        return ("zero",) if turn == 0 else ("one",) if turn == 1 else ("letter", numbers.one_of(alphabet))
    word = numbers.one_of([word for word in words if parts > 2 or word not in TWOS])
    if word in TWOS:
        first = 1 + numbers.below(parts - 2)
        return (word, random_expression(numbers, made, alphabet, first, words, weights),
                random_expression(numbers, made, alphabet, parts - 1 - first, words, weights))
    within = random_expression(numbers, made, alphabet, parts - 1, words, weights)
    if word == "scaled":
        return word, numbers.one_of(weights), within
    return (word, numbers.one_of(alphabet), within) if word == "left" else (word, within)


def plain_expression(numbers, made, alphabet, parts, weights=None):
    """A plain expression of about so many parts."""
    return random_expression(numbers, made, alphabet, parts, ("scaled", "added", "followed", "repeated"), weights)


class Sums:
    """The weights of an expression by the sums of points 11 and 12, written out."""

    def __init__(self, ring):
        self.ring = ring
        self.known = {}

    def of(self, part, word):
        """The weight that a part gives to a word."""
        key = (repr(part), word)
        if key not in self.known:
            self.known[key] = self.reckoned(part, word)
        return self.known[key]

    def reckoned(self, part, word):
        """The weight by the part's first word."""
        ring, head = self.ring, part[0]
        if head == "zero":
            return ring.zero()
        if head in ("one", "letter"):
            return ring.one() if word == (part[1] if head == "letter" else "") else ring.zero()
        first = lambda told: self.of(inner(part)[0], told)
        second = lambda told: self.of(inner(part)[1], told)
        if head == "scaled":
            return ring.times(part[1], first(word))
        if head == "added":
            return ring.plus(first(word), second(word))
        if head == "met":
            return ring.times(first(word), second(word))
        if head == "turned":
            return first(word[::-1])
        if head == "left":
            return first(part[1] + word)
        if head == "shuffled":
            return summed_dealings(ring, first, second, word)
        if head == "followed":
            return ring.total([ring.times(first(word[:at]), second(word[at:])) for at in range(len(word) + 1)])
        turns = ring.star(first(""))
        if word == "":
            return turns
        return ring.total([ring.product([turns] + [ring.times(first(piece), turns) for piece in pieces])
                           for pieces in cuts_into_pieces(word)])


def lacks_star(ring, expression):
    """Whether a star in it isn't there, wherever it stands."""
    sums = Sums(ring)
    return any(part[0] == "repeated" and refusal(sums.of, part, "")[0] == "NoStar" for part in parts(expression))


def otherwise(expression, alphabet):
    """Expressions of which one part isn't as it should be, at each depth."""
    told = []
    for change in _changes(expression, alphabet):
        told.append(change)
    for place, part in enumerate(expression):
        if any(part is within for within in inner(expression)):
            for other in otherwise(part, alphabet):
                told.append(expression[:place] + (other,) + expression[place + 1:])
    return told


def _changes(part, alphabet):
    """A part changed in one way or another."""
    told = [list(part), part[1:], part + (("one",),), part[:-1], (part,), ("name", "abc"), ("name", part), None, "one",
            (), ("ones",) + part[1:], (None,) + part[1:], ([part[0]],) + part[1:], 0, part[0], (part[0], part[0]),
            (part[0].upper(),) + part[1:], (part[0].encode(),) + part[1:], ("letter",), ("letter", "a", "a"),
            ("letter", "A"), ("letter", ""), ("letter", alphabet + "z"), ("letter", None), ("letter", ["a"]),
            ("letter", 0), ("left", "", part), ("left", part, "a"), ("left", "z", part), ("left", part),
            ("scaled", part), ("scaled", part, part), ("scaled", None, part), ("added", part), ("repeated",),
            ("added", part, part, part), ("followed", part, None), ("met", None, part), ("shuffled", part, [part]),
            ("turned", part, part), ("repeated", part, part), ("zero", part), ("one", ())]
    return told
