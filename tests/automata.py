"""Automata that look like chance, and what they weigh by other ways, that several tests share."""

import itertools

from semirail.ringof import ring_of
from semirail.webs import by_states
from tests.samples import MADE, closed, weights_of

# A ring of each kind, for what takes long in all of them.
KINDS = [("truth",), ("count",), ("least",), ("most",), ("narrow",), ("share",), ("lot", 3), ("rest", 6),
         MADE[13], ("terms", 2), ("pair", ("count",), ("rest", 2)), ("pair", ("least",), ("count",))]


def random_automaton(numbers, made, alphabet, states, steps, silent=False, weights=None):
    """An automaton of so many states, and steps; with silent ones if that is wanted and the ring is closed."""
    weights = weights_of(made) if weights is None else weights
    letters = list(alphabet) + ([""] * 2 if silent and closed(made) else [])
    found = {}
    for _ in range(steps if states else 0):
        found[numbers.below(states), numbers.one_of(letters), numbers.below(states)] = numbers.one_of(weights)
    told = tuple(key + (weight,) for key, weight in sorted(found.items(), key=lambda item: item[0]))
    starts, ends = (tuple(numbers.one_of(weights) for _ in range(states)) for _ in range(2))
    return states, starts, ends, told


def words_up_to(alphabet, length):
    """All words of at most so many letters."""
    return ["".join(row) for many in range(length + 1) for row in itertools.product(alphabet, repeat=many)]


def listed_weight(ring, automaton, word):
    """The weight of a word by all rows of steps, listed one by one; without silent steps."""
    states, starts, ends, steps = automaton
    rows = [(state, starts[state]) for state in range(states)]
    for letter in word:
        rows = [(j, ring.times(weight, further)) for at, weight in rows for i, sign, j, further in steps
                if i == at and sign == letter]
    return ring.total([ring.times(weight, ends[at]) for at, weight in rows])


def table_vector(ring, automaton, word):
    """The vector of a word by tables of the silent steps' distances, which the webs' own way tells."""
    states, starts, _, steps = automaton
    over = [[ring.one() if i == j else ring.zero() for j in range(states)] for i in range(states)]
    silent = tuple((i, j, weight) for i, sign, j, weight in steps if sign == "")
    if silent:
        over = by_states(ring, (states, silent))
    row = through(ring, starts, over)
    for letter in word:
        table = [[ring.zero()] * states for _ in range(states)]
        for i, sign, j, weight in steps:
            if sign == letter:
                table[i][j] = weight
        row = through(ring, through(ring, row, table), over)
    return row


def through(ring, row, table):
    """A row of weights times a table."""
    return [ring.total([ring.times(weight, line[j]) for weight, line in zip(row, table)]) for j in range(len(row))]


def table_weight(ring, automaton, word):
    """The weight of a word by tables."""
    row = table_vector(ring, automaton, word)
    return ring.total([ring.times(weight, end) for weight, end in zip(row, automaton[2])])


def ways_of(ring, automaton):
    """A function that tells the weight of a word by tables, each but once."""
    known = {}

    def told(word):
        if word not in known:
            known[word] = table_weight(ring, automaton, word)
        return known[word]
    return told


def good_automaton(ring, alphabet, thing):
    """Whether a thing has the form of point 10."""
    states, starts, ends, steps = thing
    if not all(type(part) is tuple for part in (thing, starts, ends, steps)) or type(states) is not int:
        return False
    if len(starts) != states or len(ends) != states or not all(ring.good(weight) for weight in starts + ends):
        return False
    keys = [step[:3] for step in steps]
    return keys == sorted(set(keys)) and all(
        type(step) is tuple and len(step) == 4 and type(step[0]) is int and type(step[2]) is int
        and 0 <= step[0] < states and 0 <= step[2] < states and ring.good(step[3])
        and (len(step[1]) == 1 and step[1] in alphabet or step[1] == "" and ring.is_closed()) for step in steps)


def samples(numbers, made, alphabet, many, states=4, steps=9):
    """Some automata, of no states, without steps, with silent steps where there may be."""
    ring = ring_of(made)
    told = [(0, (), (), ()), (1, (ring.one(),), (ring.one(),), ())]
    for turn in range(many):
        told.append(random_automaton(numbers, made, alphabet, 1 + numbers.below(states), numbers.below(steps + 1),
                                     silent=turn % 2 == 1))
    return told


def cuts_into_pieces(word):
    """All ways to cut a word into pieces, none empty; none for the empty word."""
    if word == "":
        return []
    told = [[word]]
    for at in range(1, len(word)):
        told.extend([word[:at]] + rest for rest in cuts_into_pieces(word[at:]))
    return told


def summed_cuts(ring, one, other, word):
    """FOLLOWED by point 11."""
    return ring.total([ring.times(one(word[:at]), other(word[at:])) for at in range(len(word) + 1)])


def summed_pieces(ring, one, word):
    """REPEATED by point 11."""
    turns = ring.star(one(""))
    if word == "":
        return turns
    return ring.total([ring.product([turns] + [ring.times(one(piece), turns) for piece in pieces])
                       for pieces in cuts_into_pieces(word)])


def summed_dealings(ring, one, other, word):
    """SHUFFLED by point 11."""
    told = []
    for hands in itertools.product([0, 1], repeat=len(word)):
        parts = ["".join(sign for sign, hand in zip(word, hands) if hand == whose) for whose in (0, 1)]
        told.append(ring.times(one(parts[0]), other(parts[1])))
    return ring.total(told)
